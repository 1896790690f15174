import random
import unittest
from itertools import product

from tests.slow import lot_of, play_by_words, worst_by_words
from tests.support import NO_LOTS, SHARES, THREE, ErrorCase
from tests.test_lates import random_lates
from tests.test_rules import NO_RULES
from tickshares.errors import InvalidRule, NotALot, TooMany
from tickshares.lates import run, worst
from tickshares.lots import Lot, fits
from tickshares.rules import RULES, missed

EASY = tuple([share for share in SHARES if share[1] <= 4])
HARD = tuple([share for share in SHARES if share[1] <= 6])


def offsets_of(share, moments):
    """For a work all tuples of by how many ticks its turns can be late that begin ahead of so many moments.

    What begins later may as well be as late as that; such tuples end with how late the first of these turns is.
    """
    top, bottom = share
    found, open_ones = [], [()]
    while open_ones:
        offsets = open_ones.pop()
        begin = len(offsets) * bottom // top
        for late in range(offsets[-1] if offsets else 0, moments - begin):
            open_ones.append((*offsets, late))
        found.append((*offsets, max(moments - begin, offsets[-1] if offsets else 0)))
    return found


def lates_of(lot, offsets):
    """The lates by which the turns of the works are so late."""
    told = []
    for name, row in zip(lot.names, offsets):
        steps = [late - before for late, before in zip(row, (0, *row))]
        told += [(name, at + 1, by) for at, by in enumerate(steps) if by > 0]
    return tuple(sorted(told))


class WorstTest(unittest.TestCase):
    def held(self, lot, rule):
        """What is told is held against a slow search, and the lates that are told against a slow play."""
        told = worst(lot, rule)
        moment = worst_by_words(lot, rule)
        if told is None or moment is None:
            self.assertEqual((told, moment), (None, None), (str(lot), rule))
            return
        self.true(lot, rule, told)
        self.assertEqual(told[1][0], moment, (str(lot), rule))

    def true(self, lot, rule, told):
        """With the lates that are told the rule misses first just the turn that is told."""
        lates, lost = told
        self.assertIs(type(told), tuple)
        self.assertEqual(run(lot, rule, lates, lost[0])[1], lost)
        self.assertEqual(run(lot, rule, lates, 2000)[1], lost)
        self.assertEqual(run(lot, rule, lates, lost[0] - 1)[1], None)
        self.assertEqual(play_by_words(lot, rule, lost[0] + 5, lates)[1], lost)

    def test_one_work(self):
        for share in HARD:
            for rule in RULES:
                for hands in (1, 2, 6):
                    self.assertIsNone(worst(lot_of(hands, share), rule))

    def test_hands_for_all(self):
        for share in HARD:
            for rule in RULES:
                self.assertIsNone(worst(lot_of(4, share, (1, 1), (5, 6), share), rule))

    def test_all_pairs(self):
        for one, other in product(HARD, repeat=2):
            for rule in RULES:
                self.held(lot_of(1, one, other), rule)

    def test_random_threes_and_fours(self):
        chance = random.Random(31)
        for many, rounds in ((3, 90), (4, 12)):
            for _ in range(rounds):
                lot = lot_of(chance.randint(1, many - 1), *chance.choices(HARD, k=many))
                for rule in RULES:
                    self.held(lot, rule)

    def test_lots_that_just_fit(self):
        for lot in (lot_of(1, (1, 2), (1, 3), (1, 6)), lot_of(2, (2, 3), (2, 3), (2, 3)), lot_of(3, *[(3, 4)] * 4),
                    lot_of(2, (1, 2), (1, 2), (1, 3), (2, 3)), lot_of(2, (3, 5), (4, 5), (1, 5), (2, 5)),
                    lot_of(3, (2, 3), (5, 6), (1, 2), (1, 1)), lot_of(2, (5, 6), (1, 6), (1, 2), (1, 2))):
            self.assertIs(fits(lot), True)
            for rule in RULES:
                self.held(lot, rule)

    def test_all_lates_of_a_few_ticks(self):
        """All that can be late ahead of a moment is played: nothing is missed before the moment that is told."""
        chance = random.Random(32)
        for moments, lots in ((6, [lot_of(1, *chance.choices(HARD, k=2)) for _ in range(12)]),
                              (4, [lot_of(chance.randint(1, 2), *chance.choices(EASY, k=3)) for _ in range(12)])):
            for lot in lots:
                all_lates = [lates_of(lot, row) for row in product(*[offsets_of(share, moments) for share in lot.shares])]
                for rule in RULES:
                    found = [run(lot, rule, lates, moments)[1] for lates in all_lates]
                    least = min([lost[0] for lost in found if lost is not None], default=None)
                    told = worst(lot, rule)
                    if told is None or told[1][0] > moments:
                        self.assertIsNone(least, (str(lot), rule))
                    else:
                        self.assertEqual(told[1][0], least, (str(lot), rule))

    def test_no_lates_make_it_worse(self):
        chance = random.Random(33)
        for _ in range(150):
            many = chance.randint(2, 4)
            lot = lot_of(chance.randint(1, many), *chance.choices(HARD, k=many))
            for rule in RULES:
                told = worst(lot, rule)
                moments = 100 if told is None else told[1][0] - 1
                if told is not None:
                    self.true(lot, rule, told)
                for _ in range(8):
                    self.assertIsNone(run(lot, rule, random_lates(lot, chance, 5, 15, 4), moments)[1])

    def test_what_is_missed_without_lates_is_missed_with_them(self):
        chance = random.Random(34)
        for _ in range(200):
            lot = lot_of(chance.randint(1, 3), *chance.choices(HARD, k=4))
            for rule in RULES:
                lost = missed(lot, rule)
                if lost is not None:
                    self.assertLessEqual(worst(lot, rule)[1][0], lost[0])

    def test_lates_can_make_a_rule_miss_what_it_keeps_without(self):
        lot = lot_of(3, (2, 3), (5, 6), (2, 3), (5, 6))
        self.assertEqual([missed(lot, rule) for rule in RULES], [None] * 4)
        for rule in RULES:
            self.held(lot, rule)
        self.assertEqual(worst(lot, "nearest")[1][0], 18)
        self.assertEqual([worst(lot, rule) for rule in RULES[1:]], [None] * 3)

    def test_lates_can_make_a_rule_miss_something_sooner(self):
        lot = lot_of(3, (3, 4), (4, 5), (2, 3), (5, 6))
        self.assertEqual([missed(lot, rule) for rule in RULES], [(24, "d", 20)] * 4)
        self.assertEqual([worst(lot, rule)[1][0] for rule in RULES], [15, 20, 24, 24])
        for rule in RULES:
            self.held(lot, rule)


class ArgumentsTest(ErrorCase):
    def test_by_name(self):
        lot = lot_of(1, (1, 2), (2, 3))
        self.assertEqual(worst(rule="nearest", lot=lot)[1], (6, "b", 4))

    def test_twice_the_same(self):
        lot = lot_of(2, (1, 4), (3, 5), (5, 6), (1, 3))
        for rule in RULES:
            self.assertEqual(worst(lot, rule), worst(Lot(str(lot)), rule))

    def test_no_lots(self):
        for value in NO_LOTS:
            self.fails(NotALot, {"given": value}, worst, value, "none")

    def test_no_rules(self):
        many = lot_of(1, *[(1, 7)] * 5)
        for lot in (Lot(THREE), many, many.without("a")):
            for value in NO_RULES:
                self.fails(InvalidRule, {"given": value}, worst, lot, value)

    def test_too_many_works(self):
        for lot in (lot_of(1, *[(1, 2)] * 5), lot_of(6, *[(1, 6)] * 6), lot_of(2, *[(1, 7)] * 5), lot_of(2, *[(1, 16)] * 6)):
            for rule in RULES:
                self.fails(TooMany, {"limit": 4}, worst, lot, rule)

    def test_too_great_a_bottom(self):
        for lot in (lot_of(1, (1, 7)), lot_of(4, (1, 2), (5, 6), (6, 7), (1, 1)), lot_of(1, (15, 16), (1, 16), (1, 9), (1, 7))):
            for rule in RULES:
                self.fails(TooMany, {"limit": 6}, worst, lot, rule)

    def test_the_greatest_that_are_not_too_many(self):
        for rule in RULES:
            self.assertIsNone(worst(lot_of(4, (1, 6), (5, 6), (4, 5), (1, 1)), rule))
            self.assertIsNotNone(worst(lot_of(1, (1, 6), (5, 6), (4, 5), (1, 1)), rule))
