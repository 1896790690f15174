"""Plans: how to keep all works with hands that are told tick by tick."""

from tickshares.crews import ticks_of
from tickshares.errors import InvalidCounts
from tickshares.limits import MOST_COUNTS, MOST_HANDS
from tickshares.lots import check_lot
from tickshares.values import is_number
from tickshares.walks import Walk
from tickshares.ways import any_way


def plan(lot, counts):
    """Any plan for these counts, None if there is none."""
    check_lot(lot)
    check_counts(counts)
    return ticks_of(any_way(Walk(lot.shares, counts)))


def longest(lot, counts):
    """The greatest number of first counts for which there is a plan, 0 if there is none for the first one alone."""
    check_lot(lot)
    check_counts(counts)
    return len([layer for layer in layers_of(lot, counts) if len(layer) > 0]) - 1


def least_more(lot, counts):
    """The least number by which all counts must be greater so that there is a plan."""
    check_lot(lot)
    check_counts(counts)
    more = 0
    # It ends: with a hand for each work all can be kept.
    while not Walk(lot.shares, [number + more for number in counts]).is_alive(0, 0):
        more += 1
    return more


def layers_of(lot, counts):
    """For each moment the ascending tuple of the standings that one can come to, up to the first one without any."""
    walk = Walk(lot.shares, counts)
    layer = [0]
    layers = [_standings_in(walk, 0, layer)]
    for moment in range(walk.ticks):
        behind = {}
        for ahead in layer:
            for crew in walk.crews(moment, ahead):
                behind[walk.ahead_behind(moment, ahead, crew)] = True
        layer = list(behind)
        layers.append(_standings_in(walk, moment + 1, layer))
        if not layer:
            break
    return tuple(layers)


def check_counts(counts):
    """Raises InvalidCounts for what is no tuple of counts."""
    if not isinstance(counts, tuple) or len(counts) == 0:
        raise InvalidCounts(None)
    for index, number in enumerate(counts):
        if index >= MOST_COUNTS or not is_number(number, 0, MOST_HANDS):
            raise InvalidCounts(index)


def _standings_in(walk, moment, layer):
    """The ascending tuple of the standings for a list of who is ahead."""
    return tuple(sorted([walk.numbers_of(moment, ahead) for ahead in layer]))
