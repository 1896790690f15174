"""The round of a lot, moment by moment: its standings, which of them are alive, and the ways from one to the next.

At a moment of the round a work has one of two numbers of ticks, or a single one. So a standing is told here by the crew
of the works that are ahead: those that have the greater one of two numbers.
"""

from tickshares.crews import crew_of, parts_of_crews, sizes_of_crews
from tickshares.turns import turns_of


class Round:
    """One round of a lot, from the moment 0 to its end."""

    def __init__(self, lot):
        self.ticks = lot.span
        self.most = lot.hands
        self.sizes = sizes_of_crews(len(lot.shares))
        self.parts = parts_of_crews(len(lot.shares))
        numbers = [[turns_of(share, moment) for share in lot.shares] for moment in range(lot.span + 1)]
        # For each moment the works that have two numbers, for each tick those whose lower number grows in it.
        self.doubles = [crew_of([at for at, (low, high) in enumerate(row) if low < high]) for row in numbers]
        self.grown = [_grown_between(row, after) for row, after in zip(numbers, numbers[1:])]
        self.living = _living_of(self, len(lot.shares))

    def is_alive(self, moment, ahead):
        """Whether the standing is alive."""
        return self.living[moment] >> ahead & 1 == 1

    def choices(self, moment, ahead):
        """The crews that can get hands in the tick behind the moment such that what comes of it is alive."""
        grown = self.grown[moment]
        needed = grown & ~ahead
        # Whoever is neither needed nor free would have more than its greatest number with a hand.
        free = self.doubles[moment + 1] & ~(grown ^ ahead)
        room = self.most - self.sizes[needed]
        still_ahead = ahead & ~grown
        living = self.living[moment + 1]
        return [
            needed + part for part in self.parts[free]
            if self.sizes[part] <= room and living >> (still_ahead + part) & 1
        ]

    def ahead_behind(self, moment, ahead, crew):
        """Who is ahead behind the tick in which the crew gets hands, when these were ahead before it."""
        return ahead + crew - self.grown[moment]

    def ahead_before(self, moment, ahead, crew):
        """Who was ahead before the tick in which the crew got hands, when these are ahead behind it."""
        return ahead - crew + self.grown[moment]


def _grown_between(before, after):
    """The crew of the works whose lower number is greater after a tick than before it."""
    return crew_of([at for at, (low, _) in enumerate(before) if after[at][0] > low])


def _living_of(walk, many):
    """For each moment the standings that are alive, as a number in which the bit `ahead` is set for each of them."""
    possible = [sum([1 << part for part in parts]) for parts in walk.parts]
    not_ahead = [sum([1 << ahead for ahead in walk.parts[-1] if not ahead >> at & 1]) for at in range(many)]
    # One can go on for ever from the end of the round just if one can from its start, for there all is the same.
    living = [1]
    for moment in range(walk.ticks - 1, -1, -1):
        before = _standings_before(living[-1], walk.grown[moment], not_ahead, walk.most)
        living.append(before & possible[walk.doubles[moment]])
    if living[-1] == 0:
        return [0] * len(living)
    return living[::-1]


def _standings_before(after, grown, not_ahead, most):
    """The standings from which a tick can lead to one of those after it, both told as `_living_of` tells them."""
    # One goes back through the tick work by work. Those at the index k are come from with k hands for the works so far.
    found = [after]
    for at, others in enumerate(not_ahead):
        step = 1 << at
        pairs = list(zip([*found, 0], [0, *found]))
        if grown >> at & 1:
            # With a hand the work stays ahead or not, without one it is ahead before the tick and not behind it.
            found = [given | ((idle & others) << step) for idle, given in pairs]
        else:
            # Without a hand the work stays ahead or not, with one it is ahead behind the tick and not before it.
            found = [idle | ((given >> step) & others) for idle, given in pairs]
    told = 0
    for standings in found[:most + 1]:
        told |= standings
    return told
