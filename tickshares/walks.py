"""Walks through the ticks of a lot: its standings at each moment, which of them are alive, and how they hang together.

At a moment a work has one of two numbers of ticks, or a single one. So a standing is told here by the crew of the works
that are ahead: those that have the greater one of two numbers.
"""

from tickshares.crews import crew_of, parts_of_crews, sizes_of_crews
from tickshares.turns import turns_of


class Walk:
    """Ticks from the moment 0 on for works with these shares; the hands are told for each tick."""

    def __init__(self, shares, hands):
        self.ticks = len(hands)
        self.most = hands
        self.sizes = sizes_of_crews(len(shares))
        self.parts = parts_of_crews(len(shares))
        numbers = [[turns_of(share, moment) for share in shares] for moment in range(len(hands) + 1)]
        self.lows = [[low for low, _ in row] for row in numbers]
        # For each moment the works that have two numbers, for each tick those whose lower number grows in it.
        self.doubles = [crew_of([at for at, (low, high) in enumerate(row) if low < high]) for row in numbers]
        self.grown = [_grown_between(row, after) for row, after in zip(self.lows, self.lows[1:])]
        self.living = _living_of(self, len(shares))

    def is_alive(self, moment, ahead):
        """Whether one can go on from the standing to the end; none is alive if one cannot from the start."""
        return self.living[moment] >> ahead & 1 == 1

    def crews(self, moment, ahead):
        """The crews that can get hands in the tick behind the moment such that all works are kept behind it."""
        grown = self.grown[moment]
        needed = grown & ~ahead
        # Whoever is neither needed nor free would have more than its greatest number with a hand.
        free = self.doubles[moment + 1] & ~(grown ^ ahead)
        room = self.most[moment] - self.sizes[needed]
        return [needed + part for part in self.parts[free] if self.sizes[part] <= room]

    def choices(self, moment, ahead):
        """The crews that can get hands in the tick behind the moment such that what comes of it is alive."""
        living = self.living[moment + 1]
        shift = ahead - self.grown[moment]
        return [crew for crew in self.crews(moment, ahead) if living >> (shift + crew) & 1]

    def ahead_behind(self, moment, ahead, crew):
        """Who is ahead behind the tick in which the crew gets hands, when these were ahead before it."""
        return ahead + crew - self.grown[moment]

    def ahead_before(self, moment, ahead, crew):
        """Who was ahead before the tick in which the crew got hands, when these are ahead behind it."""
        return ahead - crew + self.grown[moment]

    def numbers_of(self, moment, ahead):
        """The standing at the moment in which these works are ahead."""
        return tuple([low + (ahead >> at & 1) for at, low in enumerate(self.lows[moment])])


def round_of(lot):
    """The walk through one round of the lot.

    At its end there is a single standing, from which one can go on for ever just if one can from the start, for there
    all is the same. So what is alive in this walk is alive for ever.
    """
    return Walk(lot.shares, [lot.hands] * lot.span)


def _grown_between(before, after):
    """The crew of the works whose lower number is greater after a tick than before it."""
    return crew_of([at for at, low in enumerate(before) if after[at] > low])


def _living_of(walk, many):
    """For each moment the standings that are alive, as a number in which the bit `ahead` is set for each of them."""
    possible = [sum([1 << part for part in parts]) for parts in walk.parts]
    not_ahead = [sum([1 << ahead for ahead in walk.parts[-1] if not ahead >> at & 1]) for at in range(many)]
    living = [possible[walk.doubles[-1]]]
    for moment in range(walk.ticks - 1, -1, -1):
        before = _standings_before(living[-1], walk.grown[moment], not_ahead, walk.most[moment])
        living.append(before & possible[walk.doubles[moment]])
    if living[-1] == 0:
        return [0] * len(living)
    return living[::-1]


def _standings_before(after, grown, not_ahead, most):
    """The standings from which a tick can lead to one of those after it, both told as `_living_of` tells them."""
    # One goes back through the tick work by work. Those at the index k are come from with k hands for the works so far.
    found = [after]
    for at, others in enumerate(not_ahead):
        step = 1 << at
        pairs = list(zip([*found, 0], [0, *found]))
        if grown >> at & 1:
            # With a hand the work stays ahead or not, without one it is ahead before the tick and not behind it.
            found = [given | ((idle & others) << step) for idle, given in pairs]
        else:
            # Without a hand the work stays ahead or not, with one it is ahead behind the tick and not before it.
            found = [idle | ((given >> step) & others) for idle, given in pairs]
    told = 0
    for standings in found[:most + 1]:
        told |= standings
    return told
