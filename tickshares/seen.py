"""Seen shares: what the share of a work can be by a log of its ticks."""

from math import gcd, lcm

from tickshares.errors import InvalidLog
from tickshares.limits import MOST_LOG
from tickshares.values import check_number, is_number

MOST_BOTTOM = 60


def bounds(log):
    """The pair of fractions between which a share must lie to fit, None if no share fits."""
    check_log(log)
    had = log[0]
    low = (0, 1)
    high = (had + 1, 1)
    for moment, more in enumerate(log[1:], 2):
        had += more
        # A work is kept at a moment just if its share is above (had - 1) / moment, and below (had + 1) / moment.
        if _is_less(low, (had - 1, moment)):
            low = (had - 1, moment)
        if _is_less((had + 1, moment), high):
            high = (had + 1, moment)
    # The lower bound is below 1, so that a share of 1 at most lies between the two if anything does.
    if not _is_less(low, high):
        return None
    return _in_lowest_terms(low), _in_lowest_terms(high)


def simplest(log):
    """The share that fits with the least bottom, of these the least one; None if there is none."""
    between = bounds(log)
    if between is None:
        return None
    bottom = 1
    tops = _tops_between(between, bottom)
    # It ends: the sum of both tops over the sum of both bottoms lies between the bounds; if it is above 1, 1 does too.
    while not tops:
        bottom += 1
        tops = _tops_between(between, bottom)
    return tops[0], bottom


def shares_to(log, number):
    """The tuple of all shares that fit with bottoms up to this number, ascending by their values."""
    between = bounds(log)
    check_number(number, 1, MOST_BOTTOM)
    if between is None:
        return ()
    whole = 1
    for bottom in range(1, number + 1):
        whole = lcm(whole, bottom)
    told = []
    for bottom in range(1, number + 1):
        for top in _tops_between(between, bottom):
            if gcd(top, bottom) == 1:
                told.append((top * (whole // bottom), (top, bottom)))
    return tuple([share for _, share in sorted(told)])


def check_log(log):
    """Raises InvalidLog for what is no log."""
    if not isinstance(log, tuple) or len(log) == 0:
        raise InvalidLog(None)
    for index, given in enumerate(log):
        if index >= MOST_LOG or not is_number(given, 0, 1):
            raise InvalidLog(index)


def _tops_between(between, bottom):
    """All tops up to the bottom with which it is a number between the two bounds, ascending."""
    (low_top, low_bottom), (high_top, high_bottom) = between
    least = low_top * bottom // low_bottom + 1
    greatest = (high_top * bottom - 1) // high_bottom
    return list(range(least, min(greatest, bottom) + 1))


def _is_less(one, other):
    """Whether the one number is less than the other; both are pairs of a top and a bottom."""
    return one[0] * other[1] < other[0] * one[1]


def _in_lowest_terms(number):
    """The number as a fraction."""
    top, bottom = number
    common = gcd(top, bottom)
    return top // common, bottom // common
