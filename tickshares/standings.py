"""Standings: how many ticks the works can have had at a moment, and from which of these one can go on for ever."""

from tickshares.crews import crew_of, members_of
from tickshares.errors import InvalidStanding
from tickshares.lots import check_lot, check_round
from tickshares.picks import all_picks
from tickshares.turns import turns_of
from tickshares.values import check_moment, is_number
from tickshares.walks import round_of


def standings(lot, moment):
    """All standings at the moment, ascending."""
    check_lot(lot)
    check_moment(moment)
    check_round(lot)
    return tuple(all_picks([list(range(low, high + 1)) for low, high in _numbers_at(lot, moment)]))


def alive(lot, moment):
    """The standings at the moment that are alive, ascending."""
    told = standings(lot, moment)
    walk = round_of(lot)
    return tuple([standing for standing in told if walk.is_alive(moment % lot.span, ahead_in(lot, moment, standing))])


def choices(lot, moment, standing):
    """Who can get hands in the tick behind the moment such that one comes to a standing that is alive, ascending."""
    check_lot(lot)
    check_moment(moment)
    check_standing(lot, moment, standing)
    check_round(lot)
    crews = round_of(lot).choices(moment % lot.span, ahead_in(lot, moment, standing))
    return tuple(sorted([members_of(crew) for crew in crews]))


def check_standing(lot, moment, standing):
    """Raises InvalidStanding for what is no standing of the lot at the moment."""
    numbers = _numbers_at(lot, moment)
    if not isinstance(standing, tuple) or len(standing) != len(numbers):
        raise InvalidStanding(standing)
    for number, (low, high) in zip(standing, numbers):
        if not is_number(number, low, high):
            raise InvalidStanding(standing)


def ahead_in(lot, moment, standing):
    """The crew of the works that have the greater one of their two numbers in this standing."""
    numbers = _numbers_at(lot, moment)
    return crew_of([at for at, number in enumerate(standing) if number > numbers[at][0]])


def _numbers_at(lot, moment):
    """For each work the least and the greatest number of ticks with which it is kept at the moment."""
    # The turns that must be over by then, and those that can have begun.
    return [turns_of(share, moment) for share in lot.shares]
