"""The search for the lates with which a rule misses a turn as early as can be.

All that can be late is tried moment by moment. Where the works stand is a tuple of pairs as in `paces`, one for each,
and what may come of it hangs on nothing else. So one goes on from each such tuple once, when it is first come to; and
if there are no more of them, the rule never misses any turn.
"""

from tickshares.paces import order_of, paces_of
from tickshares.picks import all_picks
from tickshares.turns import begin_of


def shortest_miss(lot, rule):
    """The pair of any lates and of the moment at which the rule misses a turn with them, the lowest there is.

    None if it misses no turn, whatever the lates.
    """
    paces = paces_of(lot, rule)
    layer = all_picks([_arrivals(0, 0) for _ in paces])
    before = {stands: None for stands in layer}
    while layer:
        later = []
        for stands in layer:
            others = _all_behind(paces, lot.hands, stands)
            if others is None:
                path = _path_to(before, stands)
                return _lates_on(lot, paces, path), len(path)
            for other in others:
                if other not in before:
                    before[other] = stands
                    later.append(other)
        layer = later
    return None


def _arrivals(place, since):
    """Where a work may stand whose turn has begun for so many ticks if it is not late."""
    # A turn that will begin may be late too, but it is soon enough to ask for that when it is to begin.
    if since < 0:
        return [(place, since)]
    return [(place, number) for number in range(since, -2, -1)]


def _all_behind(paces, hands, stands):
    """All tuples of where the works may stand behind the tick, None if a turn is missed then."""
    crew = order_of(paces, stands)[:hands]
    options = []
    for at, (place, since) in enumerate(stands):
        pace = paces[at]
        if at in crew:
            options.append(_arrivals(pace.place_behind(place), since + 1 - pace.gaps[place]))
        elif since < 0:
            options.append(_arrivals(place, since + 1))
        elif since + 1 < pace.lengths[place]:
            options.append([(place, since + 1)])
        else:
            return None
    return all_picks(options)


def _path_to(before, stands):
    """Where the works stand at the moments from 0 on, up to this tuple."""
    path = []
    while stands is not None:
        path.append(stands)
        stands = before[stands]
    return path[::-1]


def _lates_on(lot, paces, path):
    """The lates with which the works stand so at the moments from 0 on."""
    turns = [1] * len(paces)
    late = {}
    for moment, stands in enumerate(path):
        # While a turn is still to begin it can become later: what is told of it at last is true.
        for at, (_, since) in enumerate(stands):
            late[lot.names[at], turns[at]] = moment - since - begin_of(lot.shares[at], turns[at])
        for at in order_of(paces, stands)[:lot.hands]:
            turns[at] += 1
    # A turn is late as the one before it is, and by what its own triple says.
    triples = [(name, turn, by - late.get((name, turn - 1), 0)) for (name, turn), by in late.items()]
    return tuple(sorted([triple for triple in triples if triple[2] > 0]))
