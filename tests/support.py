"""What the tests share: a lot of the document, values of wrong kinds, and a close look at errors."""

import unittest
from math import gcd

from tickshares.lots import Lot

THREE = "hands 2\nwork ann 2/3\nwork bob 1/2\nwork cat 5/6"

# All shares with bottoms to 16.
SHARES = tuple((top, bottom) for bottom in range(1, 17) for top in range(1, bottom + 1) if gcd(top, bottom) == 1)


class Agreeable:
    """Says that it equals whatever it is held against."""

    __hash__ = None

    def __eq__(self, other):
        return True

    def __ne__(self, other):
        return False


# None of these is an integer, a string, or a tuple of two integers.
ODD_VALUES = (
    None, True, False, b"ann", b"1", (), (1,), ("ann",), (True, 2), (1, None), (1, 2, 3), ((1, 2),), [], [1, 2], ["ann"],
    {}, {"ann": 1}, {1, 2}, frozenset([1]), object(), len, int, ValueError("ann"), Agreeable(), Lot(THREE),
)

NO_LOTS = (*[value for value in ODD_VALUES if not isinstance(value, Lot)], THREE, "", 0, 1, Lot, (Lot(THREE),))


class ErrorCase(unittest.TestCase):
    """A test case that looks at the very class of an error and at its attributes."""

    def fails(self, wanted, attributes, action, *args, **named):
        """The call raises this very class, with these very values as attributes."""
        with self.assertRaises(wanted) as caught:
            action(*args, **named)
        self.assertEqual(caught.exception.__class__, wanted)
        self.assertEqual(set(vars(caught.exception)), set(attributes))
        for name, value in attributes.items():
            told = getattr(caught.exception, name)
            # Equal integers may be two objects; of all else it is the very value that is passed.
            self.assertTrue(told is value or type(told) is type(value) is int and told == value, repr(told))
