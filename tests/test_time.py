"""The calls end in reasonable time also for the greatest that the document allows."""

import unittest
from time import perf_counter

from tests.slow import lot_of, play_by_words, starts_of, with_whole
from tickshares.lates import run, worst
from tickshares.rules import RULES, missed, order_by, table_by
from tickshares.standings import alive, choices, standings
from tickshares.tables import calm_table, count_tables, fewest_starts, is_table, nth_table, rank_of, table

# Seconds for one call. They take less than two here; slow machines are to have time enough.
PATIENCE = 30

WIDE = ((7, 16), (9, 16), (8, 15), (7, 15), (4, 9), (5, 9))
GREATEST = tuple([lot_of(hands, *WIDE) for hands in range(1, 7)])
OTHERS = (lot_of(3, *[(7, 16)] * 3, *[(8, 15)] * 2, (4, 9)), lot_of(5, (15, 16), (14, 15), (8, 9), (1, 16), (7, 9), (1, 9)))


class TimeTest(unittest.TestCase):
    def timed(self, action, *args):
        """What the call returns, which must not take too long."""
        start = perf_counter()
        told = action(*args)
        self.assertLess(perf_counter() - start, PATIENCE, action.__name__)
        return told

    def test_standings(self):
        for lot in (*GREATEST, *OTHERS):
            self.assertEqual(lot.span, 720)
            for moment in (1, 361, 719, 10 ** 30):
                there = self.timed(standings, lot, moment)
                self.assertLessEqual(len(self.timed(alive, lot, moment)), len(there))
                self.timed(choices, lot, moment, there[-1])

    def test_tables(self):
        for lot in (*GREATEST, *OTHERS):
            many = self.timed(count_tables, lot)
            told = self.timed(table, lot)
            self.assertIs(told is None, many == 0)
            if many:
                self.assertIs(self.timed(is_table, lot, told), True)
                last = self.timed(nth_table, lot, many - 1)
                self.assertEqual(self.timed(rank_of, lot, last), many - 1)

    def test_starts(self):
        for lot in (GREATEST[0], GREATEST[2], GREATEST[4], OTHERS[0]):
            fewest, calm = self.timed(fewest_starts, lot), self.timed(calm_table, lot)
            self.assertEqual(fewest, None if calm is None else starts_of(calm))

    def test_rules(self):
        for lot in (*GREATEST, *OTHERS):
            whole = tuple([top * 720 // bottom for top, bottom in lot.shares])
            for rule in RULES:
                self.assertIs(self.timed(missed, lot, rule) is None, self.timed(table_by, lot, rule) is not None)
                self.timed(order_by, lot, rule, 720 * 10 ** 27, with_whole(whole, whole, 10 ** 27 - 1))

    def test_run(self):
        for lot in (GREATEST[2], GREATEST[4], *OTHERS):
            lates = sorted([(name, turn, 1 + turn % 3) for name in lot.names for turn in range(1, 1000, 29)])
            lates = tuple(lates[:99] + lates[-101:])
            for rule in RULES:
                told = self.timed(run, lot, rule, lates, 2000)
                self.assertEqual((len(told[0]), told[1]), (2000, None))
                self.assertEqual(told[0][:200], play_by_words(lot, rule, 200, lates)[0])

    def test_worst(self):
        for hands in (1, 2, 3, 4):
            for shares in (((3, 4), (4, 5), (5, 6), (4, 5)), ((1, 6), (3, 5), (3, 4), (1, 2)), ((1, 6), (1, 5), (1, 4), (5, 6)),
                           ((3, 5), (4, 5), (5, 6), (5, 6)), ((1, 6), (1, 6), (5, 6), (5, 6)), ((2, 5), (3, 5), (2, 5), (3, 5))):
                for rule in RULES:
                    lot = lot_of(hands, *shares)
                    told = self.timed(worst, lot, rule)
                    if told is not None:
                        self.assertEqual(run(lot, rule, told[0], told[1][0])[1], told[1])
