"""Plays: a rule is followed tick by tick, up to the first turn that it misses."""

from tickshares.paces import order_of, paces_of


def play(lot, rule, delays, ticks):
    """The pair of who gets hands in each tick, up to so many, and of the first missed turn, None if none is missed.

    The delays are a dict for each work: by how many ticks a turn is later than the one before it would make it.
    """
    paces = paces_of(lot, rule)
    turns = [1] * len(paces)
    stands = [(0, -late.get(1, 0)) for late in delays]
    told = []
    for moment in range(ticks):
        crew = order_of(paces, stands)[:lot.hands]
        told.append(tuple(sorted(crew)))
        for at, pace in enumerate(paces):
            place, since = stands[at]
            if at in crew:
                turns[at] += 1
                late = delays[at].get(turns[at], 0)
                stands[at] = (pace.place_behind(place), since + 1 - pace.gaps[place] - late)
            else:
                stands[at] = (place, since + 1)
        for at, (place, since) in enumerate(stands):
            if since == paces[at].lengths[place]:
                return tuple(told), (moment + 1, lot.names[at], turns[at])
    return tuple(told), None
