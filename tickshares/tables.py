"""Tables: who gets hands in the ticks of a round, such that all works are kept for ever."""

from tickshares.crews import crew_of, members_of
from tickshares.errors import InvalidNumber, InvalidTable
from tickshares.lots import check_lot, check_round
from tickshares.rounds import Round
from tickshares.starts import calm_way_of, fewest_of
from tickshares.turns import turns_of
from tickshares.values import is_number, is_number_from
from tickshares.ways import any_way, count_ways, nth_way, rank_of_way


def is_table(lot, value):
    """Whether the value is a right table of the lot."""
    check_lot(lot)
    check_round(lot)
    return _is_right(lot, value)


def table(lot):
    """Any right table of the lot, None if there is none."""
    return _table_of(any_way(_asked_round(lot)))


def count_tables(lot):
    """How many right tables the lot has."""
    return count_ways(_asked_round(lot))


def nth_table(lot, number):
    """The right table with this index among all of the lot, ascending."""
    check_lot(lot)
    if not is_number_from(number, 0):
        raise InvalidNumber(number)
    way = nth_way(_asked_round(lot), number)
    if way is None:
        raise InvalidNumber(number)
    return _table_of(way)


def rank_of(lot, value):
    """The index of the right table among all of the lot, ascending."""
    check_lot(lot)
    if not _is_right(lot, value):
        raise InvalidTable(value)
    return rank_of_way(_asked_round(lot), [crew_of(members) for members in value])


def fewest_starts(lot):
    """The least number of starts in a right table of the lot, None if there is none."""
    return fewest_of(_asked_round(lot))


def calm_table(lot):
    """Any right table of the lot with the fewest starts, None if there is none."""
    return _table_of(calm_way_of(_asked_round(lot)))


def _asked_round(lot):
    """The round of the lot that is asked for, which is checked and may be too long."""
    check_lot(lot)
    check_round(lot)
    return Round(lot)


def _table_of(way):
    """The table for a list of crews, None for None."""
    if way is None:
        return None
    return tuple([members_of(crew) for crew in way])


def _is_right(lot, value):
    """Whether the value is a right table of the lot, however long its round is."""
    if not isinstance(value, tuple) or len(value) != lot.span:
        return False
    had = [0] * len(lot.shares)
    for moment, members in enumerate(value):
        if not _are_members(members, len(lot.shares), lot.hands):
            return False
        for at in members:
            had[at] += 1
        if not _are_kept(lot.shares, moment + 1, had):
            return False
    # All are kept at the end of the round too, so that they have had their whole shares, and all begins anew.
    return True


def _are_members(value, many, most):
    """Whether the value is an ascending tuple of indexes of so many works, and of no more than the most."""
    if not isinstance(value, tuple) or len(value) > most:
        return False
    least = 0
    for at in value:
        if not is_number(at, least, many - 1):
            return False
        least = at + 1
    return True


def _are_kept(shares, moment, had):
    """Whether all works are kept at the moment that have had so many ticks."""
    for share, number in zip(shares, had):
        low, high = turns_of(share, moment)
        if not low <= number <= high:
            return False
    return True
