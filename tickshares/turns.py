"""Turns: when the turns of a work begin, when they must have had their tick, and how they hang together."""

from tickshares.lots import check_lot, check_name, share_of
from tickshares.values import check_moment, check_turn


def begin(lot, name, turn):
    """The moment at which the turn begins."""
    share = _asked_share(lot, name)
    check_turn(turn)
    return begin_of(share, turn)


def border(lot, name, turn):
    """The moment up to which the turn must have had its tick."""
    share = _asked_share(lot, name)
    check_turn(turn)
    return border_of(share, turn)


def overlaps(lot, name, turn):
    """Whether the border of the turn is above the begin of the next turn."""
    share = _asked_share(lot, name)
    check_turn(turn)
    return overlaps_of(share, turn)


def group_border(lot, name, turn):
    """The group border of the turn."""
    share = _asked_share(lot, name)
    check_turn(turn)
    return group_border_of(share, turn)


def turns_up_to(lot, name, moment):
    """How many turns have their borders at this moment or before, and how many have begun before it."""
    share = _asked_share(lot, name)
    check_moment(moment)
    return turns_of(share, moment)


def begin_of(share, turn):
    """The begin of the turn of a work with this share."""
    top, bottom = share
    return (turn - 1) * bottom // top


def border_of(share, turn):
    """The border of the turn of a work with this share."""
    top, bottom = share
    return _quotient_up(turn * bottom, top)


def overlaps_of(share, turn):
    """Whether the turn of a work with this share overlaps."""
    return border_of(share, turn) > begin_of(share, turn + 1)


def group_border_of(share, turn):
    """The group border of the turn of a work with this share."""
    top, bottom = share
    if 2 * top < bottom:
        return 0
    # Borders grow by one at least from turn to turn, and the last turn of a round does not overlap. So the first of
    # the two signs that is met on the way from turn to turn gives the least moment, within a round.
    while overlaps_of(share, turn):
        turn += 1
        if border_of(share, turn) - begin_of(share, turn) == 3:
            return border_of(share, turn) - 1
    return border_of(share, turn)


def turns_of(share, moment):
    """How many turns of a work with this share have borders up to the moment, and how many have begun before it."""
    top, bottom = share
    return moment * top // bottom, _quotient_up(moment * top, bottom)


def _asked_share(lot, name):
    """The share of the work that is asked for, both arguments being checked."""
    check_lot(lot)
    check_name(lot, name)
    return share_of(lot, name)


def _quotient_up(top, bottom):
    """The quotient, rounded up."""
    return (top + bottom - 1) // bottom
