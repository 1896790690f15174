"""What it is to keep works, by the words of the document: ticks are looked at, nothing is searched for."""

from tickshares.values import is_number


def keeps_all(shares, hands, value):
    """Whether the value tells, for each tick with so many hands, the works that get them, such that all are kept."""
    if not isinstance(value, tuple) or len(value) != len(hands):
        return False
    had = [0] * len(shares)
    for moment, members in enumerate(value):
        if not _are_members(members, len(shares), hands[moment]):
            return False
        for at in members:
            had[at] += 1
        if not are_kept(shares, moment + 1, had):
            return False
    return True


def are_kept(shares, moment, had):
    """Whether all works are kept at the moment that have had so many ticks."""
    return all([is_kept(share, moment, number) for share, number in zip(shares, had)])


def is_kept(share, moment, number):
    """Whether a work with this share is kept at the moment with so many ticks."""
    top, bottom = share
    return abs(number * bottom - moment * top) < bottom


def _are_members(value, many, most):
    """Whether the value is an ascending tuple of indexes of so many works, and of no more than the most."""
    if not isinstance(value, tuple) or len(value) > most:
        return False
    least = 0
    for at in value:
        if not is_number(at, least, many - 1):
            return False
        least = at + 1
    return True
