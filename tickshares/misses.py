"""Misses: a rule is followed tick by tick as its words tell it, for the checker, which asks for nothing faster."""

from tickshares.paces import RANKINGS
from tickshares.turns import begin_of, border_of


def first_miss(lot, rule, lates, ticks):
    """The triple of the first turn that the rule misses with these lates in so many ticks, None if it misses none."""
    own = [[(turn, by) for name, turn, by in lates if name == title] for title in lot.names]
    had = [0] * len(lot.shares)
    for moment in range(ticks):
        # A work that is late lives by a clock that is late as it is.
        clocks = [moment - _late_by(late, number + 1) for late, number in zip(own, had)]
        for at in _order_of(lot, rule, clocks, had)[:lot.hands]:
            had[at] += 1
        for at, number in enumerate(had):
            if border_of(lot.shares[at], number + 1) + _late_by(own[at], number + 1) <= moment + 1:
                return moment + 1, lot.names[at], number + 1
    return None


def _late_by(late, turn):
    """By how many ticks a turn is late; the lates are pairs of the turn from which on they count and of ticks."""
    return sum([by for first, by in late if first <= turn])


def _order_of(lot, rule, clocks, had):
    """The indexes of the works that are due, as the rule puts them."""
    ranking = RANKINGS[rule]
    due = []
    for at, (share, number) in enumerate(zip(lot.shares, had)):
        if begin_of(share, number + 1) <= clocks[at]:
            due.append((ranking(share, number + 1, clocks[at], lot.span), at))
    return [at for _, at in sorted(due)]
