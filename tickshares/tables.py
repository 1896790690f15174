"""Tables: who gets hands in the ticks of a round, such that all works are kept for ever."""

from tickshares.crews import crew_of, ticks_of
from tickshares.errors import InvalidNumber, InvalidTable
from tickshares.kept import keeps_all
from tickshares.lots import check_lot, check_round
from tickshares.starts import calm_way_of, fewest_of
from tickshares.values import is_number_from
from tickshares.walks import round_of
from tickshares.ways import any_way, count_ways, nth_way, rank_of_way


def is_table(lot, value):
    """Whether the value is a right table of the lot."""
    check_lot(lot)
    check_round(lot)
    return is_right(lot, value)


def table(lot):
    """Any right table of the lot, None if there is none."""
    return ticks_of(any_way(_asked_round(lot)))


def count_tables(lot):
    """How many right tables the lot has."""
    return count_ways(_asked_round(lot))


def nth_table(lot, number):
    """The right table with this index among all of the lot, ascending."""
    check_lot(lot)
    if not is_number_from(number, 0):
        raise InvalidNumber(number)
    way = nth_way(_asked_round(lot), number)
    if way is None:
        raise InvalidNumber(number)
    return ticks_of(way)


def rank_of(lot, value):
    """The index of the right table among all of the lot, ascending."""
    check_lot(lot)
    if not is_right(lot, value):
        raise InvalidTable(value)
    return rank_of_way(_asked_round(lot), [crew_of(members) for members in value])


def fewest_starts(lot):
    """The least number of starts in a right table of the lot, None if there is none."""
    return fewest_of(_asked_round(lot))


def calm_table(lot):
    """Any right table of the lot with the fewest starts, None if there is none."""
    return ticks_of(calm_way_of(_asked_round(lot)))


def is_right(lot, value):
    """Whether the value is a right table of the lot, however long its round is."""
    # All are kept at the end of the round too, so that they have had their whole shares, and all begins anew.
    return keeps_all(lot.shares, (lot.hands,) * lot.span, value)


def _asked_round(lot):
    """The round of the lot that is asked for, which is checked and may be too long."""
    check_lot(lot)
    check_round(lot)
    return round_of(lot)
