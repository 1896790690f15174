"""Forms: shares that hang on an integer n, and the stretches of n for which they fit."""

from tickshares.curves import flips, minus, times, value_at
from tickshares.errors import InvalidForms
from tickshares.limits import MOST_HANDS
from tickshares.values import check_number, is_number

MOST_FORMS = 4
MOST_IN_FORM = 10 ** 9


def fitting(forms, number):
    """The ascending tuple of stretches of n for which all forms are shares that sum to no more than this number."""
    check_forms(forms)
    check_number(number, 1, MOST_HANDS)
    curves = _curves_of(forms, number)
    # From one of these to the next nothing changes, and behind the last one nothing ever does. Where a curve flips, it
    # is below 0 on one of the two sides, so that neighbouring stretches never touch.
    firsts = sorted(set([0, *[flip for curve in curves for flip in flips(curve)]]))
    stretches = []
    for first, after in zip(firsts, [*firsts[1:], None]):
        if all([value_at(curve, first) >= 0 for curve in curves]):
            stretches.append((first, None if after is None else after - 1))
    return tuple(stretches)


def check_forms(forms):
    """Raises InvalidForms for what is no tuple of forms."""
    if not isinstance(forms, tuple) or len(forms) == 0:
        raise InvalidForms(None)
    for index, form in enumerate(forms):
        if index >= MOST_FORMS or not _is_form(form):
            raise InvalidForms(index)


def _is_form(value):
    """Whether the value is a form."""
    if not isinstance(value, tuple) or len(value) != 2 or not _is_pair(value[0]) or not _is_pair(value[1]):
        return False
    return value[0] != (0, 0) and value[1][1] > 0


def _is_pair(value):
    """Whether the value is a pair of integers that may stand in a form."""
    if not isinstance(value, tuple) or len(value) != 2:
        return False
    return all([is_number(part, 0, MOST_IN_FORM) for part in value])


def _curves_of(forms, number):
    """Curves that are all 0 or above just for those n for which the forms are shares that sum to so much at most."""
    tops = [[b, a] for (a, b), _ in forms]
    bottoms = [[d, c] for _, (c, d) in forms]
    curves = [minus(top, [1]) for top in tops]
    curves += [minus(bottom, top) for top, bottom in zip(tops, bottoms)]
    # The bottoms are above 0, so that all sides can be multiplied with all of them.
    left = [number]
    for bottom in bottoms:
        left = times(left, bottom)
    for at, top in enumerate(tops):
        part = top
        for bottom in [*bottoms[:at], *bottoms[at + 1:]]:
            part = times(part, bottom)
        left = minus(left, part)
    return [*curves, left]
