import random
import unittest
from fractions import Fraction

from tests.claims import accepted_by_words
from tests.lots_to_try import LONG, SMALL_LOTS, TOO_LONG, random_lots
from tests.slow import longest_by_words, lot_of, play_by_words, worst_by_words
from tests.support import NO_LOTS, SHARES, THREE, ErrorCase
from tests.test_plans import NO_COUNTS, NO_TUPLES
from tests.test_rules import NO_RULES
from tests.test_seen import ALL_SHARES, LOGS, all_logs, fits_by_words
from tickshares.certificates import certify, certify_plan, certify_rule, certify_share, certify_worst
from tickshares.checker import accepts
from tickshares.errors import InvalidCounts, InvalidLog, InvalidRule, NotALot, TooMany
from tickshares.lates import worst
from tickshares.lots import Lot, fits
from tickshares.rules import RULES, missed


class CertificatesTest(unittest.TestCase):
    def held(self, told, *claim):
        """The claim begins so; it is true by a slow look, and accepted."""
        self.assertIs(type(told), tuple)
        self.assertEqual(len(told), 2)
        self.assertEqual(told[0][:len(claim)], claim)
        self.assertTrue(accepted_by_words(*told), told)
        self.assertIs(accepts(*told), True)

    def test_lots(self):
        for lot in (*SMALL_LOTS, *random_lots(80, 111)):
            self.held(certify(lot), "fits" if sum([Fraction(*share) for share in lot.shares]) <= lot.hands else "over", lot.text)

    def test_rules(self):
        for lot in (*SMALL_LOTS, *random_lots(60, 112)):
            for rule in RULES:
                lost = play_by_words(lot, rule, lot.span)[1]
                if lost is None:
                    self.held(certify_rule(lot, rule), "rule", lot.text, rule)
                else:
                    self.held(certify_rule(lot, rule), "misses", lot.text, rule, (), *lost)

    def test_worst(self):
        chance = random.Random(113)
        shares = [share for share in SHARES if share[1] <= 6]
        there = {True: 0, False: 0}
        for _ in range(150):
            lot = lot_of(chance.randint(1, 2), *chance.choices(shares, k=chance.randint(1, 3)))
            rule = chance.choice(RULES)
            moment = worst_by_words(lot, rule)
            told = certify_worst(lot, rule)
            there[moment is None] += 1
            if moment is None:
                self.assertIsNone(told)
            else:
                self.held(told, "misses", lot.text, rule)
                self.assertEqual((told[0][4], told[1]), (moment, ()))
        self.assertGreater(min(there.values()), 30)

    def test_worst_of_four_works(self):
        chance = random.Random(114)
        shares = [share for share in SHARES if share[1] <= 6]
        for _ in range(80):
            lot = lot_of(chance.randint(1, 3), *chance.choices(shares, k=4))
            rule = chance.choice(RULES)
            told, found = certify_worst(lot, rule), worst(lot, rule)
            if found is None:
                self.assertIsNone(told)
            else:
                self.held(told, "misses", lot.text, rule, found[0], *found[1])

    def test_plans(self):
        chance = random.Random(115)
        for lot in (*SMALL_LOTS, *random_lots(60, 116)):
            for _ in range(4):
                counts = tuple(chance.choices(range(chance.randint(1, 5)), k=chance.randint(1, 10)))
                there = longest_by_words(lot, counts) == len(counts)
                self.held(certify_plan(lot, counts), "plan" if there else "no plan", lot.text, counts)

    def test_long_plans(self):
        chance = random.Random(117)
        for lot in (LONG[2], lot_of(1, (1, 2), (1, 3)), lot_of(1, (2, 3), (1, 2), (5, 6))):
            for counts in ((1,) * 60, (2,) * 59 + (0,), tuple(chance.choices((1, 2, 3), k=60)), (0,) * 60):
                there = longest_by_words(lot, counts) == 60
                self.held(certify_plan(lot, counts), "plan" if there else "no plan", lot.text, counts)

    def test_the_empty_layer_comes_first_or_last(self):
        self.assertEqual(certify_plan(lot_of(1, (1, 1)), (0, 1, 2)), (("no plan", "hands 1\nwork a 1/1", (0, 1, 2)), (((0,),), ())))
        self.assertEqual(certify_plan(lot_of(1, (1, 1)), (1, 0)), (("no plan", "hands 1\nwork a 1/1", (1, 0)), (((0,),), ((1,),), ())))

    def test_shares(self):
        for log in (*all_logs(1), *all_logs(5), *all_logs(7)[::3], *LOGS):
            told = certify_share(log)
            fitting = [share for share in ALL_SHARES if fits_by_words(log, share)]
            if told is None:
                self.assertEqual(fitting, [])
            else:
                self.held(told, "share", log)
                self.assertEqual(told[1], ())
                if fitting:
                    least = min(fitting, key=lambda share: (share.denominator, share))
                    self.assertEqual(told[0][2:], (least.numerator, least.denominator))

    def test_great_lots(self):
        for lot in (LONG[0], LONG[0].with_hands(2), LONG[2]):
            told = certify(lot)
            self.assertEqual((told[0][0], accepts(*told)), ("fits" if fits(lot) else "over", True))
            for rule in RULES:
                told = certify_rule(lot, rule)
                self.assertEqual((told[0][0], accepts(*told)), ("rule" if missed(lot, rule) is None else "misses", True))


class ArgumentsTest(ErrorCase):
    def test_by_name(self):
        lot = Lot(THREE)
        self.assertEqual(certify(lot=lot), certify(lot))
        self.assertEqual(certify_rule(rule="keen", lot=lot), certify_rule(lot, "keen"))
        self.assertEqual(certify_worst(rule="keen", lot=lot.with_hands(1)), certify_worst(lot.with_hands(1), "keen"))
        self.assertEqual(certify_plan(counts=(1, 2), lot=lot), certify_plan(lot, (1, 2)))
        self.assertEqual(certify_share(log=(1, 0, 1)), (("share", (1, 0, 1), 1, 2), ()))

    def test_twice_the_same(self):
        for _ in range(2):
            lot = Lot(THREE)
            self.assertEqual(certify(lot), certify(Lot(THREE)))
            self.assertEqual(certify_worst(lot.with_hands(1), "keen"), certify_worst(Lot(THREE).with_hands(1), "keen"))
            self.assertEqual(certify_plan(lot, (1, 1)), certify_plan(Lot(THREE), (1, 1)))

    def test_no_lots(self):
        for value in NO_LOTS:
            self.fails(NotALot, {"given": value}, certify, value)
            self.fails(NotALot, {"given": value}, certify_rule, value, None)
            self.fails(NotALot, {"given": value}, certify_worst, value, None)
            self.fails(NotALot, {"given": value}, certify_plan, value, None)

    def test_no_rules(self):
        for value in NO_RULES:
            for lot in (Lot(THREE), TOO_LONG[0]):
                self.fails(InvalidRule, {"given": value}, certify_rule, lot, value)
                self.fails(InvalidRule, {"given": value}, certify_worst, lot, value)

    def test_no_counts(self):
        for lot in (Lot(THREE), TOO_LONG[0]):
            for value in (*NO_TUPLES, ()):
                self.fails(InvalidCounts, {"index": None}, certify_plan, lot, value)
            for value in NO_COUNTS:
                self.fails(InvalidCounts, {"index": 1}, certify_plan, lot, (1, value, value))
            self.fails(InvalidCounts, {"index": 60}, certify_plan, lot, (1,) * 61)

    def test_no_logs(self):
        for value in (None, True, 0, "", "01", [], [0, 1], ()):
            self.fails(InvalidLog, {"index": None}, certify_share, value)
        self.fails(InvalidLog, {"index": 2}, certify_share, (0, 1, True))
        self.fails(InvalidLog, {"index": 200}, certify_share, (1,) * 201)

    def test_too_long_a_round(self):
        for lot in TOO_LONG:
            self.fails(TooMany, {"limit": 720}, certify, lot)
            self.fails(TooMany, {"limit": 720}, certify_plan, lot, (1, 2))
            for rule in RULES:
                self.fails(TooMany, {"limit": 720}, certify_rule, lot, rule)

    def test_the_errors_of_worst(self):
        for rule in RULES:
            self.fails(TooMany, {"limit": 4}, certify_worst, lot_of(1, *[(1, 2)] * 5), rule)
            self.fails(TooMany, {"limit": 4}, certify_worst, lot_of(1, *[(1, 7)] * 5), rule)
            self.fails(TooMany, {"limit": 6}, certify_worst, lot_of(1, (1, 7)), rule)
            self.fails(TooMany, {"limit": 6}, certify_worst, TOO_LONG[0], rule)
