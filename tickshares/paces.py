"""Paces: the turns of a work as a rule sees them.

Where a work stands is told by a pair (place, since): the place of its next turn in the round of the work, from 0 on,
and for how many ticks this turn has begun; below 0, in how many ticks it will begin. What a rule goes by hangs on this
pair alone: in later rounds, and for works that are late, all moments are so many ticks later, but as far apart.
"""

from tickshares.turns import begin_of, border_of, group_border_of, overlaps_of


def _rank_by_nearest(share, turn, moment, _):
    """By the border."""
    return (border_of(share, turn) - moment,)


def _rank_by_overlap(share, turn, moment, _):
    """By the border, then by whether the turn overlaps."""
    return (border_of(share, turn) - moment, 0 if overlaps_of(share, turn) else 1)


def _rank_by_keen(share, turn, moment, _):
    """By the border, then by whether the turn overlaps, then by the group border if it does."""
    left = border_of(share, turn) - moment
    group = group_border_of(share, turn)
    if not overlaps_of(share, turn):
        return (left, 1, 0)
    # A group border of 0 is none to come, whatever the moment: it is less than each one that is.
    return (left, 0, moment - group if group > 0 else 0)


def _rank_by_behind(share, turn, moment, span):
    """By how far the work is behind its share at the end of the tick, in parts of a tick that suit all works."""
    top, bottom = share
    return ((turn - 1) * span - (moment + 1) * top * (span // bottom),)


RANKINGS = {
    "nearest": _rank_by_nearest, "overlap": _rank_by_overlap, "keen": _rank_by_keen, "behind": _rank_by_behind,
}


class Pace:
    """What a rule asks of the turns of a work, by their places in the round of the work."""

    def __init__(self, share, rule, span):
        turns = range(1, share[0] + 1)
        # How many ticks each turn has, and how many ticks behind its begin the next one begins.
        self.lengths = [border_of(share, turn) - begin_of(share, turn) for turn in turns]
        self.gaps = [begin_of(share, turn + 1) - begin_of(share, turn) for turn in turns]
        # For each tick of each turn what the rule goes by: the lower comes first.
        self.ranks = [_ranks_of(share, rule, span, turn) for turn in turns]

    def place_behind(self, place):
        """The place of the next turn."""
        return (place + 1) % len(self.gaps)


def paces_of(lot, rule):
    """The paces of the works of the lot."""
    return [Pace(share, rule, lot.span) for share in lot.shares]


def order_of(paces, stands):
    """The tuple of the indexes of the works that are due, as the rule puts them, when the works stand there."""
    due = [(paces[at].ranks[place][since], at) for at, (place, since) in enumerate(stands) if since >= 0]
    return tuple([at for _, at in sorted(due)])


def _ranks_of(share, rule, span, turn):
    """What the rule goes by in each tick of the turn."""
    ranking = RANKINGS[rule]
    return [ranking(share, turn, moment, span) for moment in range(begin_of(share, turn), border_of(share, turn))]
