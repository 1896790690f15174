"""The ways through the round of a lot, which are its right tables: how many there are, and what place each one has.

A way is a list of crews, one for each tick. Ways are in the order of the tables that they stand for.
"""

from tickshares.crews import members_of


def any_way(walk):
    """Any way through the round, None if there is none."""
    if not walk.is_alive(0, 0):
        return None
    ahead = 0
    way = []
    for moment in range(walk.ticks):
        crew = walk.choices(moment, ahead)[0]
        way.append(crew)
        ahead = walk.ahead_behind(moment, ahead, crew)
    return way


def count_ways(walk):
    """How many ways there are through the round."""
    return _ways_on(walk)[0].get(0, 0)


def nth_way(walk, number):
    """The way with this index among all, None if there are not so many."""
    ways = _ways_on(walk)
    if number >= ways[0].get(0, 0):
        return None
    ahead = 0
    way = []
    for moment in range(walk.ticks):
        for crew in _ascending_choices(walk, moment, ahead):
            behind = walk.ahead_behind(moment, ahead, crew)
            many = ways[moment + 1][behind]
            if number < many:
                way.append(crew)
                ahead = behind
                break
            number -= many
    return way


def rank_of_way(walk, way):
    """The index of the way among all."""
    ways = _ways_on(walk)
    ahead = 0
    rank = 0
    for moment, taken in enumerate(way):
        for crew in _ascending_choices(walk, moment, ahead):
            if crew == taken:
                break
            rank += ways[moment + 1][walk.ahead_behind(moment, ahead, crew)]
        ahead = walk.ahead_behind(moment, ahead, taken)
    return rank


def _ways_on(walk):
    """For each moment a dict of in how many ways one can go on to the end of the round, by who is ahead.

    What is not alive is left out.
    """
    ways = [{0: 1} if walk.is_alive(0, 0) else {}]
    for moment in range(walk.ticks - 1, -1, -1):
        after = ways[-1]
        before = {}
        for ahead in walk.parts[walk.doubles[moment]]:
            if walk.is_alive(moment, ahead):
                crews = walk.choices(moment, ahead)
                before[ahead] = sum([after[walk.ahead_behind(moment, ahead, crew)] for crew in crews])
        ways.append(before)
    return ways[::-1]


def _ascending_choices(walk, moment, ahead):
    """The crews that can get hands in the tick, in the order of the tuples of their members."""
    pairs = sorted([(members_of(crew), crew) for crew in walk.choices(moment, ahead)])
    return [crew for _, crew in pairs]
