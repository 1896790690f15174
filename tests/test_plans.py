import random
import unittest

from tests.lots_to_try import JUST, LESS, LONG, MORE, SMALL_LOTS, TOO_LONG
from tests.slow import is_plan_by_words, longest_by_words, lot_of
from tests.support import NO_LOTS, ODD_VALUES, SHARES, THREE, ErrorCase
from tickshares.errors import InvalidCounts, NotALot
from tickshares.lots import Lot, fits
from tickshares.plans import least_more, longest, plan
from tickshares.tables import is_table

ACTIONS = (plan, longest, least_more)

NO_TUPLES = (None, True, 0, 3, "", "11", b"11", [], [1, 1], {}, {1, 2}, {1: 1}, object(), Lot(THREE), range(3))

NO_COUNTS = (*[value for value in ODD_VALUES], -1, 7, 8, -6, 10 ** 60, "", "1", "ann", (1, 1), [1])


class PlansTest(unittest.TestCase):
    def held(self, lot, counts):
        """What is told of the counts is held against a slow walk."""
        told, first = plan(lot, counts), longest_by_words(lot, counts)
        if first == len(counts):
            self.assertTrue(is_plan_by_words(lot, counts, told), (str(lot), counts, told))
        else:
            self.assertIsNone(told, (str(lot), counts))
        self.assertEqual(longest(lot, counts), first, (str(lot), counts))
        more = least_more(lot, counts)
        self.assertIs(type(more), int)
        self.assertIn(more, range(7))
        if more > 0:
            less = tuple([number + more - 1 for number in counts])
            self.assertLess(longest_by_words(lot, less), len(counts), (str(lot), counts, more))
        self.assertEqual(longest_by_words(lot, tuple([number + more for number in counts])), len(counts))

    def test_one_tick(self):
        for lot in (*SMALL_LOTS, *LONG, *TOO_LONG):
            for number in range(7):
                self.held(lot, (number,))

    def test_all_counts_of_few_ticks(self):
        for lot in (LESS[1], LESS[2], JUST[1], JUST[4], MORE[0], MORE[1], MORE[4]):
            for first in range(4):
                for second in range(4):
                    for third in range(4):
                        self.held(lot, (first, second, third))

    def test_drawn_counts(self):
        chance = random.Random(31)
        for lot in (*SMALL_LOTS, *LONG, *TOO_LONG):
            for _ in range(3):
                most = chance.randint(1, 6)
                self.held(lot, tuple(chance.choices(range(most + 1), k=chance.randint(1, 14))))

    def test_counts_near_the_hands_that_are_needed(self):
        chance = random.Random(32)
        for _ in range(150):
            lot = lot_of(1, *chance.choices(SHARES, k=chance.randint(1, 6)))
            top, bottom = lot.total
            near = top // bottom
            counts = [min(6, max(0, near + chance.choice((0, 0, 1, 1, 1, 2, -1)))) for _ in range(chance.randint(2, 16))]
            self.held(lot, tuple(counts))

    def test_the_same_hands_in_all_ticks(self):
        for lot in (*SMALL_LOTS[::2], *TOO_LONG):
            for number in range(7):
                self.held(lot, (number,) * 10)

    def test_sixty_ticks(self):
        chance = random.Random(33)
        for lot in (LESS[6], JUST[4], JUST[8], MORE[2], TOO_LONG[1]):
            for _ in range(3):
                self.held(lot, tuple(chance.choices((1, 2, 3), k=60)))
            self.held(lot, (6,) * 60)
            self.held(lot, (0,) * 60)

    def test_zeros(self):
        for lot in SMALL_LOTS:
            for many in (1, 2, 5, 17):
                self.held(lot, (0,) * many)
        # It can be kept without a hand for fifteen ticks, and then it needs one.
        light = lot_of(1, (1, 16))
        self.assertEqual(plan(light, (0,) * 15), ((),) * 15)
        self.assertEqual((plan(light, (0,) * 16), longest(light, (0,) * 16), least_more(light, (0,) * 16)), (None, 15, 1))
        self.assertEqual(longest(lot_of(1, (1, 1)), (0, 6)), 0)

    def test_above_six(self):
        lot = lot_of(1, *[(1, 1)] * 6)
        self.assertEqual(least_more(lot, (0, 6)), 6)
        self.assertEqual(least_more(lot, (6, 6)), 0)
        self.assertEqual(least_more(lot, (3, 6, 5)), 3)
        self.assertEqual(longest(lot, (6, 6, 5, 6)), 2)

    def test_the_hands_of_the_lot_do_not_count(self):
        chance = random.Random(34)
        for lot in SMALL_LOTS:
            counts = tuple(chance.choices(range(5), k=8))
            for number in (1, 3, 6):
                other = lot.with_hands(number)
                for action in ACTIONS:
                    self.assertEqual(action(lot, counts), action(other, counts))

    def test_a_round_with_the_hands_of_the_lot_is_a_table(self):
        for lot in SMALL_LOTS:
            if lot.span <= 60:
                told = plan(lot, (lot.hands,) * lot.span)
                self.assertIs(told is not None, fits(lot))
                self.assertIs(is_table(lot, told), fits(lot))

    def test_longest_is_a_plan_for_so_many(self):
        chance = random.Random(35)
        for lot in (*JUST, *MORE):
            counts = tuple(chance.choices((1, 2, 2, 3), k=20))
            many = longest(lot, counts)
            for first in range(1, 21):
                self.assertIs(plan(lot, counts[:first]) is not None, first <= many)


class ArgumentsTest(ErrorCase):
    def test_by_name(self):
        lot = lot_of(1, (1, 2), (1, 2))
        self.assertEqual(plan(counts=(0, 2), lot=lot), ((), (0, 1)))
        self.assertEqual(longest(counts=(0, 1), lot=lot), 1)
        self.assertEqual(least_more(counts=(0, 1), lot=lot), 1)

    def test_twice_the_same(self):
        for action in ACTIONS:
            self.assertEqual(action(Lot(THREE), (2, 2, 1, 3)), action(Lot(THREE), tuple([2, 2, 1, 3])))

    def test_no_lots(self):
        for value in NO_LOTS:
            for action in ACTIONS:
                self.fails(NotALot, {"given": value}, action, value, (1,))
                self.fails(NotALot, {"given": value}, action, value, None)

    def wrong(self, index, counts):
        """The counts are refused, with this index, by all functions, and for lots of all rounds."""
        for action in ACTIONS:
            for lot in (Lot(THREE), TOO_LONG[0]):
                self.fails(InvalidCounts, {"index": index}, action, lot, counts)

    def test_no_tuple(self):
        for value in (*NO_TUPLES, ()):
            self.wrong(None, value)

    def test_no_count(self):
        for value in NO_COUNTS:
            with self.subTest(value=repr(value)):
                self.wrong(0, (value,))
                self.wrong(0, (value, 1, value))
                self.wrong(2, (1, 6, value))
                self.wrong(1, (0, value, 7))
                self.wrong(59, (*(1,) * 59, value, value))

    def test_the_61st(self):
        self.assertEqual(len(plan(Lot(THREE), (2,) * 60)), 60)
        self.wrong(60, (2,) * 61)
        self.wrong(60, (2,) * 200)
        self.wrong(60, (*(2,) * 60, None))
        self.wrong(59, (*(2,) * 59, 7, 2))
