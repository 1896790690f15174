"""Picks: one taken of each."""


def all_picks(options):
    """All tuples that take one of each of these lists, in the order of the lists."""
    picks = [()]
    for option in options:
        picks = [(*taken, one) for taken in picks for one in option]
    return picks
