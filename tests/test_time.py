"""The calls end in reasonable time also for the greatest that the document allows."""

import unittest
from time import perf_counter

from tests.slow import is_plan_by_words, lot_of, play_by_words, starts_of, with_whole
from tickshares.certificates import certify, certify_plan, certify_rule, certify_share, certify_worst
from tickshares.checker import accepts
from tickshares.console import Console
from tickshares.desks import Desk
from tickshares.errors import Broken
from tickshares.forms import fitting
from tickshares.lates import run, worst
from tickshares.plans import least_more, longest, plan
from tickshares.rules import RULES, missed, order_by, table_by
from tickshares.seen import bounds, shares_to, simplest
from tickshares.standings import alive, choices, standings
from tickshares.tables import calm_table, count_tables, fewest_starts, is_table, nth_table, rank_of, table
from tickshares.yards import Yard

# Seconds for one call. They take less than two here; slow machines are to have time enough.
PATIENCE = 30

WIDE = ((7, 16), (9, 16), (8, 15), (7, 15), (4, 9), (5, 9))
GREATEST = tuple([lot_of(hands, *WIDE) for hands in range(1, 7)])
OTHERS = (lot_of(3, *[(7, 16)] * 3, *[(8, 15)] * 2, (4, 9)), lot_of(5, (15, 16), (14, 15), (8, 9), (1, 16), (7, 9), (1, 9)))


class TimeTest(unittest.TestCase):
    def timed(self, action, *args):
        """What the call returns, which must not take too long."""
        start = perf_counter()
        told = action(*args)
        self.assertLess(perf_counter() - start, PATIENCE, action.__name__)
        return told

    def test_standings(self):
        for lot in (*GREATEST, *OTHERS):
            self.assertEqual(lot.span, 720)
            for moment in (1, 361, 719, 10 ** 30):
                there = self.timed(standings, lot, moment)
                self.assertLessEqual(len(self.timed(alive, lot, moment)), len(there))
                self.timed(choices, lot, moment, there[-1])

    def test_tables(self):
        for lot in (*GREATEST, *OTHERS):
            many = self.timed(count_tables, lot)
            told = self.timed(table, lot)
            self.assertIs(told is None, many == 0)
            if many:
                self.assertIs(self.timed(is_table, lot, told), True)
                last = self.timed(nth_table, lot, many - 1)
                self.assertEqual(self.timed(rank_of, lot, last), many - 1)

    def test_starts(self):
        for lot in (GREATEST[0], GREATEST[2], GREATEST[4], OTHERS[0]):
            fewest, calm = self.timed(fewest_starts, lot), self.timed(calm_table, lot)
            self.assertEqual(fewest, None if calm is None else starts_of(calm))

    def test_rules(self):
        for lot in (*GREATEST, *OTHERS):
            whole = tuple([top * 720 // bottom for top, bottom in lot.shares])
            for rule in RULES:
                self.assertIs(self.timed(missed, lot, rule) is None, self.timed(table_by, lot, rule) is not None)
                self.timed(order_by, lot, rule, 720 * 10 ** 27, with_whole(whole, whole, 10 ** 27 - 1))

    def test_run(self):
        for lot in (GREATEST[2], GREATEST[4], *OTHERS):
            lates = sorted([(name, turn, 1 + turn % 3) for name in lot.names for turn in range(1, 1000, 29)])
            lates = tuple(lates[:99] + lates[-101:])
            for rule in RULES:
                told = self.timed(run, lot, rule, lates, 2000)
                self.assertEqual((len(told[0]), told[1]), (2000, None))
                self.assertEqual(told[0][:200], play_by_words(lot, rule, 200, lates)[0])

    def test_worst(self):
        for hands in (1, 2, 3, 4):
            for shares in (((3, 4), (4, 5), (5, 6), (4, 5)), ((1, 6), (3, 5), (3, 4), (1, 2)), ((1, 6), (1, 5), (1, 4), (5, 6)),
                           ((3, 5), (4, 5), (5, 6), (5, 6)), ((1, 6), (1, 6), (5, 6), (5, 6)), ((2, 5), (3, 5), (2, 5), (3, 5))):
                for rule in RULES:
                    lot = lot_of(hands, *shares)
                    told = self.timed(worst, lot, rule)
                    if told is not None:
                        self.assertEqual(run(lot, rule, told[0], told[1][0])[1], told[1])

    def test_plans(self):
        for lot in (*GREATEST[:2], *OTHERS, lot_of(1, *[(1, 2)] * 6), lot_of(1, *[(1, 16)] * 6)):
            for counts in ((0,) * 60, (6,) * 60, (3, 4, 2) * 20, (2, 3) * 30, (*(3,) * 59, 0)):
                told = self.timed(plan, lot, counts)
                self.assertIs(self.timed(longest, lot, counts) == 60, told is not None)
                self.assertIs(self.timed(least_more, lot, counts) == 0, told is not None)
                if told is not None:
                    self.assertTrue(is_plan_by_words(lot, counts, told))

    def test_seen(self):
        for log in ((0,) * 200, (1,) * 200, (1, 0) * 100, tuple([(at + 1) * 157 // 199 - at * 157 // 199 for at in range(200)])):
            low, high = self.timed(bounds, log)
            top, bottom = self.timed(simplest, log)
            self.assertTrue(low[0] * bottom < top * low[1] and top * high[1] < high[0] * bottom)
            self.assertIs((top, bottom) in self.timed(shares_to, log, 60), bottom <= 60)

    def test_forms(self):
        most = 10 ** 9
        for forms in ((((most, most), (most, most)),) * 4, (((most - 1, 1), (most, most)),) * 4,
                      (((most - 7, 3), (most, 5)), ((1, most), (most, most)), ((most, 0), (3, most)), ((0, 1), (most, 1)))):
            for number in range(1, 7):
                self.timed(fitting, forms, number)

    def test_yards(self):
        for lot in (GREATEST[3], GREATEST[5], *OTHERS):
            yard = self.timed(Yard, lot)
            for crew in [choices(lot, 0, (0,) * 6)[-1]] * 2:
                names = tuple([lot.names[at] for at in crew])
                if self.timed(yard.lets, names):
                    self.timed(yard.tick, names)

    def test_desks(self):
        lot, other = GREATEST[3], GREATEST[3].put("a", (1, 2))
        desk = Desk()
        self.timed(desk.__setitem__, "x", lot)
        for promise in (("fits", "x"), ("rule", "x", "keen"), ("tables", "x", 10 ** 60), ("starts", "x", 1000)):
            self.timed(desk.promise, promise)
        self.assertRaises(Broken, self.timed, desk.promise, ("starts", "x", 10))
        self.timed(desk.__setitem__, "x", other)
        self.assertEqual((desk["x"], len(desk.promises), desk.changes), (other, 4, 6))

    def test_console(self):
        console = Console()
        for command in ("put x\n" + str(GREATEST[3]), "total x", "tables x", "starts x", "missed x keen", "table x behind",
                        "promise tables x 10", "promise starts x 2000", "work x f 1/2", "undo", "promises"):
            self.timed(console.run, command)

    def test_certificates_and_the_checker(self):
        told = [self.timed(certify, lot) for lot in (*GREATEST, *OTHERS)]
        told += [self.timed(certify_rule, lot, rule) for lot in (GREATEST[2], GREATEST[3], OTHERS[0]) for rule in RULES]
        for lot in (GREATEST[0], GREATEST[3], lot_of(1, *[(15, 16)] * 6), lot_of(1, *[(1, 16)] * 6), lot_of(1, *[(7, 15)] * 3, *[(8, 15)] * 3)):
            for counts in ((6,) * 60, (3,) * 60, (2,) * 60, (*(6,) * 40, *(1,) * 20), (*(6,) * 40, *(2,) * 20), (*(4, 5, 6) * 10, *(3,) * 30)):
                told.append(self.timed(certify_plan, lot, counts))
        told.append(self.timed(certify_worst, lot_of(2, (3, 4), (4, 5), (5, 6), (1, 6)), "keen"))
        told += [self.timed(certify_share, log) for log in ((0,) * 200, (1,) * 200, (0, 1) * 100)]
        for pair in told:
            if pair is not None:
                self.assertIs(self.timed(accepts, *pair), True)

    def test_the_longest_story_for_the_checker(self):
        lot = lot_of(1, (7, 16), (9, 16), (8, 15), (7, 15), (4, 9), (5, 9))
        lates = sorted([(name, turn, 1 + turn % 3) for name in lot.names for turn in range(1, 1000, 29)])
        lates = tuple(lates[:99] + lates[-101:])
        late = tuple([(name, 1, 1990) for name in lot.names])
        for rule in RULES:
            for more in (lates, late):
                lost = self.timed(run, lot, rule, more, 2000)[1]
                self.assertIs(self.timed(accepts, ("misses", str(lot), rule, more, *lost), ()), True)
            claim = ("misses", str(lot.with_hands(4)), rule, lates, 2000, "a", 9)
            self.assertIs(self.timed(accepts, claim, ()), False)
