"""Rules when works are late with what they bring: one story of it, and the shortest one that goes wrong."""

from tickshares.delays import shortest_miss
from tickshares.errors import InvalidLates, TooMany
from tickshares.limits import MOST_LATES, MOST_RUN
from tickshares.lots import check_lot
from tickshares.plays import play
from tickshares.rules import check_rule
from tickshares.values import check_number, is_number

# What is beyond these is too much for the search of all that can be late.
MOST_SEARCHED_WORKS = 4
MOST_SEARCHED_PERIOD = 6

MOST_LATE_TURN = 10 ** 6
MOST_LATE_BY = 10 ** 6


def run(lot, rule, lates, ticks):
    """The pair of who gets hands in each tick, up to so many, and of the first missed turn, None if none is missed."""
    check_lot(lot)
    check_rule(rule)
    check_lates(lot, lates)
    check_number(ticks, 0, MOST_RUN)
    return play(lot, rule, _delays_of(lot, lates), ticks)


def worst(lot, rule):
    """The pair of any lates and of the first turn missed with them, at the lowest moment that there is for any lates.

    None if the rule misses no turn, whatever the lates.
    """
    check_lot(lot)
    check_rule(rule)
    if len(lot.shares) > MOST_SEARCHED_WORKS:
        raise TooMany(MOST_SEARCHED_WORKS)
    if max([bottom for _, bottom in lot.shares]) > MOST_SEARCHED_PERIOD:
        raise TooMany(MOST_SEARCHED_PERIOD)
    found = shortest_miss(lot, rule)
    if found is None:
        return None
    lates, moment = found
    _, lost = play(lot, rule, _delays_of(lot, lates), moment)
    return lates, lost


def check_lates(lot, lates):
    """Raises InvalidLates for what is no tuple of lates of the lot."""
    if not isinstance(lates, tuple):
        raise InvalidLates(None)
    before = ("", 0)
    for index, late in enumerate(lates):
        # With the same name and turn twice the tuple may ascend, but it is none of lates.
        if index >= MOST_LATES or not _is_late(lot, late) or late[:2] <= before:
            raise InvalidLates(index)
        before = late[:2]


def _is_late(lot, value):
    """Whether the value is a triple of a work of the lot, one of its turns, and by how much it is late."""
    if not isinstance(value, tuple) or len(value) != 3:
        return False
    name, turn, by = value
    if not isinstance(name, str) or name not in lot.names:
        return False
    return is_number(turn, 1, MOST_LATE_TURN) and is_number(by, 1, MOST_LATE_BY)


def _delays_of(lot, lates):
    """For each work of the lot the dict of by how many ticks turns of it are later than the ones before."""
    delays = {name: {} for name in lot.names}
    for name, turn, by in lates:
        delays[name][turn] = by
    return [delays[name] for name in lot.names]
