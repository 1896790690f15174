"""The examples of the document, as they stand there, and those of README.md."""

import doctest
import unittest
from pathlib import Path

README = Path(__file__).resolve().parent.parent / "README.md"

EXAMPLES = r'''
>>> from tickshares.lots import Lot, fits
>>> three = Lot("hands 2\nwork ann 2/3\nwork bob 1/2\nwork cat 5/6")
>>> [three.names, three.shares, three.total, three.span, fits(three), fits(three.with_hands(1)), three.without("bob").text, repr(three)]
[('ann', 'bob', 'cat'), ((2, 3), (1, 2), (5, 6)), (2, 1), 6, True, False, 'hands 2\nwork ann 2/3\nwork cat 5/6', 'Lot of 3 works, 2 hands']

>>> from tickshares.turns import begin, border, group_border, overlaps, turns_up_to
>>> [begin(three, "cat", 3), border(three, "cat", 3), overlaps(three, "cat", 3), group_border(three, "cat", 3), overlaps(three, "ann", 2), group_border(three, "ann", 1), border(three, "ann", 10 ** 30), turns_up_to(three, "ann", 4)]
[2, 4, True, 6, False, 3, 1500000000000000000000000000000, (2, 3)]
'''


class ExamplesTest(unittest.TestCase):
    def hold(self, text, many):
        """The text has so many examples, and each of them shows what it is told to show."""
        examples = doctest.DocTestParser().get_doctest(text, {}, "examples", None, 0)
        told = []
        runner = doctest.DocTestRunner(verbose=False)
        runner.run(examples, out=told.append)
        self.assertEqual("".join(told), "")
        self.assertEqual(runner.tries, many)

    def test_the_document(self):
        self.hold(EXAMPLES, 5)

    def test_the_readme(self):
        self.hold(README.read_text(), 9)
