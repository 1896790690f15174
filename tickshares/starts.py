"""The search for the ways through the round of a lot in which works start least often.

Who starts in a tick hangs on the crew of the tick before, for the first tick of the round on that of its last one. So
for each standing the ways that lead to it are kept apart by the crew of their last tick. What these ways cost is told
by one number for all crews at once that may have hands in the tick before the first one: with so `many` crews the bit
`more * many + first` of it is set if behind the crew `first` some way has `more` starts above a floor. This floor is
the same for all that leads to a moment.
"""


def fewest_of(walk):
    """The least number of starts in a round, None if there is no way through it."""
    if not walk.is_alive(0, 0):
        return None
    starts, _ = _best_end(walk, _moments_of(walk)[-1])
    return starts


def calm_way_of(walk):
    """Any way through the round with the fewest starts, as a list of crews, None if there is no way."""
    if not walk.is_alive(0, 0):
        return None
    moments = _moments_of(walk)
    starts, first = _best_end(walk, moments[-1])
    # One goes back from the end, each time to a crew before that leaves just the starts that are still to be found.
    crew = first
    ahead = 0
    way = []
    for moment in range(walk.ticks - 1, -1, -1):
        way.append(crew)
        ahead = walk.ahead_before(moment, ahead, crew)
        starts, crew = _one_before(walk, moments[moment], ahead, crew, starts, first)
    return way[::-1]


def _moments_of(walk):
    """For each moment the pair of its floor and of what the ways to it cost: by who is ahead, then by the last crew."""
    many = len(walk.sizes)
    floor = 0
    costs = {0: {crew: 1 << crew for crew in range(many) if walk.sizes[crew] <= walk.most[-1]}}
    moments = [(floor, costs)]
    for moment in range(walk.ticks):
        above = _costs_behind(walk, moment, costs)
        more = min([_least_of(cost, many) for ways in above.values() for cost in ways.values()])
        floor += more
        costs = {}
        for ahead, ways in above.items():
            costs[ahead] = {crew: cost >> (more * many) for crew, cost in ways.items()}
        moments.append((floor, costs))
    return moments


def _costs_behind(walk, moment, costs):
    """What the ways behind the tick cost, above the floor before it."""
    many = len(walk.sizes)
    # The first crew makes a difference of one start for each work at most, so that what costs more is of no use.
    useful = (1 << ((walk.sizes[-1] + 1) * many)) - 1
    shifts = [size * many for size in walk.sizes]
    behind = {}
    for ahead, ways in costs.items():
        for crew in walk.choices(moment, ahead):
            cost = 0
            for before, told in ways.items():
                cost |= told << shifts[crew & ~before]
            after = walk.ahead_behind(moment, ahead, crew)
            if after not in behind:
                behind[after] = {}
            behind[after][crew] = cost & (useful << (_least_of(cost, many) * many))
    return behind


def _least_of(cost, many):
    """The fewest starts above the floor, whatever the first crew."""
    return ((cost & -cost).bit_length() - 1) // many


def _best_end(walk, end):
    """The fewest starts of a way that begins behind its own last crew, and this crew."""
    floor, costs = end
    many = len(walk.sizes)
    found = []
    for crew, cost in costs[0].items():
        own = cost >> crew
        found += [(floor + more, crew) for more in range(own.bit_length() // many + 1) if own >> (more * many) & 1]
    return min(found)


def _one_before(walk, moment, ahead, crew, starts, first):
    """The starts without those of the last tick, and a crew of the tick before with which there are so many."""
    floor, costs = moment
    many = len(walk.sizes)
    found = []
    for before, cost in costs[ahead].items():
        more = starts - walk.sizes[crew & ~before] - floor
        if more >= 0 and cost >> (more * many + first) & 1:
            found.append((floor + more, before))
    return min(found)
