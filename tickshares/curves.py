"""Curves: polynomials of an integer n from 0 on, as lists of their coefficients, those of the lower powers first."""


def value_at(curve, number):
    """The value of the curve where n is this number."""
    value = 0
    for coefficient in curve[::-1]:
        value = value * number + coefficient
    return value


def times(one, other):
    """The product of two curves."""
    told = [0] * (len(one) + len(other) - 1)
    for power, factor in enumerate(one):
        for more, coefficient in enumerate(other):
            told[power + more] += factor * coefficient
    return told


def minus(one, other):
    """The difference of two curves."""
    many = max(len(one), len(other))
    pairs = list(zip(_stretched(one, many), _stretched(other, many)))
    return [first - second for first, second in pairs]


def flips(curve):
    """All n, ascending, at which the curve is below 0 and was not at n - 1, or the other way round."""
    curve = _without_lost_powers(curve)
    if len(curve) < 2:
        return []
    steps = _steps_of(curve)
    # Between two neighbours of these the curve only grows or only falls, so that there is one such n at most.
    ends = [0, *flips(steps)]
    # All zeros of a curve lie below the greatest of its coefficients and 1 more: behind that there are no flips.
    ends.append(max(ends[-1], max([abs(coefficient) for coefficient in curve]) + 1))
    told = []
    for low, high in zip(ends, ends[1:]):
        if _is_below(curve, low) != _is_below(curve, high):
            told.append(_flip_between(curve, low, high))
    return told


def _flip_between(curve, low, high):
    """The only flip above the one number and up to the other."""
    below = _is_below(curve, low)
    while high - low > 1:
        middle = (low + high) // 2
        if _is_below(curve, middle) == below:
            low = middle
        else:
            high = middle
    return high


def _is_below(curve, number):
    """Whether the curve is below 0 where n is this number."""
    return value_at(curve, number) < 0


def _steps_of(curve):
    """The curve of the differences between the values at n + 1 and at n, which has one power less."""
    moved = [0]
    for coefficient in curve[::-1]:
        moved = times(moved, [1, 1])
        moved[0] += coefficient
    return _without_lost_powers(minus(moved, curve))


def _stretched(curve, many):
    """The curve with so many coefficients, the last ones 0."""
    return curve + [0] * (many - len(curve))


def _without_lost_powers(curve):
    """The curve without last coefficients that are 0."""
    many = len(curve)
    while many > 0 and curve[many - 1] == 0:
        many -= 1
    return curve[:many]
