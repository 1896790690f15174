"""The plain values that the document speaks of (numbers, names, shares), and the checks of numbers."""

from math import gcd

from tickshares.errors import InvalidNumber
from tickshares.limits import MOST_PERIOD

LETTERS = "abcdefghijklmnopqrstuvwxyz"
LONGEST_NAME = 8
FARTHEST = 10 ** 30


def is_number(value, low, high):
    """Whether the value is an integer from low to high."""
    return is_number_from(value, low) and value <= high


def is_number_from(value, low):
    """Whether the value is an integer from low on."""
    # True and False are of the class int, but they are no integers here.
    return isinstance(value, int) and not isinstance(value, bool) and low <= value


def is_name(value):
    """Whether the value is a name."""
    if not isinstance(value, str) or not 1 <= len(value) <= LONGEST_NAME:
        return False
    return all([letter in LETTERS for letter in value])


def is_share(value):
    """Whether the value is the share of a work."""
    if not isinstance(value, tuple) or len(value) != 2:
        return False
    top, bottom = value
    # The bottom comes first: it must be a number before the top can be held against it.
    if not is_number(bottom, 1, MOST_PERIOD) or not is_number(top, 1, bottom):
        return False
    return gcd(top, bottom) == 1


def check_number(number, low, high):
    """Raises InvalidNumber for what is no integer from low to high."""
    if not is_number(number, low, high):
        raise InvalidNumber(number)


def check_moment(moment):
    """Raises InvalidNumber for what is no moment that may be passed."""
    check_number(moment, 0, FARTHEST)


def check_turn(turn):
    """Raises InvalidNumber for what is no turn that may be passed."""
    check_number(turn, 1, FARTHEST)
