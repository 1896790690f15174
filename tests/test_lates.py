import random
import unittest

from tests.lots_to_try import JUST, LESS, LONG, MORE, SMALL_LOTS, TOO_LONG, random_lots
from tests.slow import lot_of, play_by_words
from tests.support import NO_LOTS, ODD_VALUES, SHARES, THREE, ErrorCase
from tests.test_rules import NO_RULES
from tickshares.errors import InvalidLates, InvalidNumber, InvalidRule, NotALot
from tickshares.lates import run
from tickshares.lots import Lot
from tickshares.rules import RULES, missed, table_by

MANY = 10 ** 6


def random_lates(lot, chance, most, turns, by):
    """Ascending lates of a lot, up to so many for each work, of turns up to this one and by up to so many ticks."""
    told = []
    for name in lot.names:
        for turn in chance.sample(range(1, turns + 1), chance.randint(0, most)):
            told.append((name, turn, chance.randint(1, by)))
    return tuple(sorted(told))


class RunTest(unittest.TestCase):
    def held(self, lot, lates, ticks):
        """Each rule gives hands, and misses a turn, as the words do."""
        for rule in RULES:
            self.assertEqual(run(lot, rule, lates, ticks), play_by_words(lot, rule, ticks, lates), (str(lot), rule, lates, ticks))

    def test_no_lates(self):
        for lot in SMALL_LOTS:
            for ticks in (0, 1, 2, 3, lot.span - 1, lot.span, lot.span + 1):
                self.held(lot, (), ticks)

    def test_one_late(self):
        for lot in SMALL_LOTS:
            for name in lot.names:
                for turn, by in ((1, 1), (1, 2), (1, 7), (2, 1), (2, 3), (3, 1), (5, 2)):
                    self.held(lot, ((name, turn, by),), 12)

    def test_several_of_one_work(self):
        lot = Lot(THREE)
        self.held(lot, (("ann", 1, 2), ("ann", 4, 1)), 30)
        self.held(lot, (("cat", 1, 1), ("cat", 2, 1), ("cat", 3, 1), ("cat", 4, 5)), 30)
        self.held(lot.with_hands(1), (("bob", 1, 1), ("bob", 2, 1), ("bob", 3, 1), ("bob", 9, 5)), 30)

    def test_several_of_several(self):
        chance = random.Random(21)
        for lot in (*SMALL_LOTS, *random_lots(60, 22)):
            self.held(lot, random_lates(lot, chance, 3, 12, 4), 40)
            self.held(lot, random_lates(lot, chance, 8, 10, 2), 40)

    def test_all_shares(self):
        chance = random.Random(23)
        for _ in range(120):
            lot = lot_of(chance.randint(1, 5), *chance.choices(SHARES, k=chance.randint(1, 6)))
            self.held(lot, random_lates(lot, chance, 4, 12, 3), chance.randint(0, 40))

    def test_the_group_borders_of_heavy_works(self):
        chance = random.Random(24)
        heavy = [share for share in SHARES if 2 * share[0] >= share[1]]
        for _ in range(80):
            lot = lot_of(chance.randint(2, 5), *chance.choices(heavy, k=6))
            self.held(lot, random_lates(lot, chance, 3, 20, 3), 30)

    def test_turns_that_never_come(self):
        for lot in (*LESS[:4], *JUST[:4], *MORE[:2]):
            for rule in RULES:
                self.assertEqual(run(lot, rule, (("a", 999, 5), ("a", MANY, MANY)), 50), run(lot, rule, (), 50))

    def test_a_work_that_stays_away(self):
        lot = lot_of(1, (1, 2), (1, 2))
        for rule in RULES:
            self.assertEqual(run(lot, rule, (("a", 1, MANY),), 2000), (((1,), ()) * 1000, None))
            self.assertEqual(run(lot, rule, (("a", 1, MANY), ("b", 1, MANY)), 2000), (((),) * 2000, None))
            self.assertEqual(run(lot, rule, (("a", 3, 1),), 7), (((0,), (1,), (0,), (1,), (1,), (0,), (1,)), None))

    def test_triples_add_up(self):
        lot = lot_of(1, (1, 1))
        told, lost = run(lot, "nearest", (("a", 1, 2), ("a", 4, 1)), 9)
        self.assertEqual((told, lost), (((), (), (0,), (0,), (0,), (), (0,), (0,), (0,)), None))

    def test_up_to_and_behind_a_missed_border(self):
        lot = lot_of(1, (1, 2), (2, 3))
        wanted = ((0,), (1,), (1,), (0,), (1,), (0,))
        for ticks in range(12):
            lost = (6, "b", 4) if ticks >= 6 else None
            self.assertEqual(run(lot, "nearest", (), ticks), (wanted[:ticks], lost))
        # All that b brings from its second turn on is a tick later, and its fourth turn is to be had up to the moment 7.
        told, lost = run(lot, "nearest", (("b", 2, 1),), 12)
        self.assertEqual((told, lost), play_by_words(lot, "nearest", 12, (("b", 2, 1),)))

    def test_the_earliest_work_of_those_that_miss(self):
        lot = lot_of(1, (1, 1), (1, 1), (1, 1))
        for rule in RULES:
            self.assertEqual(run(lot, rule, (), 5), (((0,),), (1, "b", 1)))
            self.assertEqual(run(lot, rule, (("a", 1, 1),), 5), (((1,),), (1, "c", 1)))
            self.assertEqual(run(lot, rule, (("b", 1, 3), ("c", 1, 3)), 5), (((0,), (0,), (0,), (0,)), (4, "b", 1)))

    def test_without_lates_it_is_the_rule(self):
        for lot in (*SMALL_LOTS, *LONG):
            for rule in RULES:
                told, lost = run(lot, rule, (), lot.span)
                self.assertEqual(lost, missed(lot, rule))
                if lost is None:
                    self.assertEqual(told, table_by(lot, rule))
                    self.assertEqual(run(lot, rule, (), 2 * lot.span), (told + told, None))
                else:
                    self.assertEqual(len(told), lost[0])

    def test_two_thousand_ticks(self):
        lot = lot_of(2, (2, 3), (1, 2), (5, 6))
        lates = (("a", 7, 1), ("a", 1100, 3), ("b", 900, 2), ("c", 5, 1), ("c", 1500, 1))
        for rule in RULES:
            told, lost = run(lot, rule, lates, 2000)
            self.assertEqual((told, lost), play_by_words(lot, rule, 2000, lates))
            self.assertEqual(len(told), 2000)

    def test_any_round(self):
        chance = random.Random(25)
        for lot in TOO_LONG:
            self.held(lot, (), 30)
            self.held(lot, random_lates(lot, chance, 2, 5, 3), 30)


class ArgumentsTest(ErrorCase):
    def test_by_name(self):
        lot = lot_of(1, (1, 2), (1, 2))
        self.assertEqual(run(ticks=4, lates=(("a", 1, 1),), rule="nearest", lot=lot), (((1,), (0,), (1,), (0,)), None))

    def test_twice_the_same(self):
        lates = (("ann", 1, 2), ("cat", 4, 1))
        for rule in RULES:
            self.assertEqual(run(Lot(THREE), rule, lates, 50), run(Lot(THREE), rule, tuple(list(lates)), 50))

    def test_the_order_of_the_works_in_the_lot_does_not_count(self):
        lot = Lot("hands 1\nwork z 1/2\nwork b 1/3")
        self.assertEqual(run(lot, "keen", (("b", 1, 1), ("z", 1, 1)), 3), run(lot, "keen", (("b", 1, 1), ("z", 1, 1)), 3))
        self.fails(InvalidLates, {"index": 1}, run, lot, "keen", (("z", 1, 1), ("b", 1, 1)), 3)

    def test_no_lots(self):
        for value in NO_LOTS:
            self.fails(NotALot, {"given": value}, run, value, "none", None, -1)

    def test_no_rules(self):
        for value in NO_RULES:
            self.fails(InvalidRule, {"given": value}, run, Lot(THREE), value, None, -1)
            self.fails(InvalidRule, {"given": value}, run, Lot(THREE), value, (), 5)

    def test_no_tuple(self):
        for value in (None, True, 0, "", "ann", b"", [], [("ann", 1, 1)], {}, {("ann", 1, 1)}, {"ann": 1}, object(), Lot(THREE)):
            self.fails(InvalidLates, {"index": None}, run, Lot(THREE), "keen", value, -1)
            self.fails(InvalidLates, {"index": None}, run, Lot(THREE), "keen", value, 5)

    def wrong(self, index, *lates):
        """The first wrong element is this one, whatever the ticks."""
        for ticks in (5, -1, None):
            self.fails(InvalidLates, {"index": index}, run, Lot(THREE), "keen", lates, ticks)

    def test_no_triples(self):
        first = ("ann", 1, 1)
        for value in (*ODD_VALUES, 0, "", "ann", "a11", ["bob", 1, 1], ("bob", 1), ("bob", 1, 1, 1), ("bob",), (1, "bob", 1),
                      ("bob", "1", 1), ("bob", 1, "1"), ("bob", None, 1), ("bob", 1, None), ("bob", (1,), 1), (("bob",), 1, 1),
                      ("bob", 0, 1), ("bob", -1, 1), ("bob", MANY + 1, 1), ("bob", 1, 0), ("bob", 1, -1), ("bob", 1, MANY + 1),
                      ("bob", True, 1), ("bob", 1, True), ("bob", False, 1), ("bob", 1, False), ("bob", 10 ** 60, 1),
                      ("dan", 1, 1), ("", 1, 1), ("Bob", 1, 1), ("bob ", 1, 1), (None, 1, 1), (b"bob", 1, 1), (2, 1, 1)):
            with self.subTest(value=repr(value)):
                self.wrong(0, value)
                self.wrong(0, value, first)
                self.wrong(1, first, value)
                self.wrong(2, first, ("bob", 1, 1), value, ("cat", 1, 1))

    def test_not_ascending(self):
        self.wrong(1, ("bob", 1, 1), ("ann", 1, 1))
        self.wrong(1, ("bob", 1, 1), ("ann", 2, 2))
        self.wrong(1, ("ann", 2, 1), ("ann", 1, 1))
        self.wrong(1, ("ann", 2, 1), ("ann", 1, 5))
        self.wrong(2, ("ann", 1, 1), ("cat", 1, 1), ("bob", 1, 1))
        self.wrong(2, ("ann", 1, 1), ("ann", 9, 1), ("ann", 8, 1), ("cat", 1, 1))

    def test_the_same_name_and_turn_twice(self):
        self.wrong(1, ("ann", 1, 1), ("ann", 1, 1))
        self.wrong(1, ("ann", 1, 1), ("ann", 1, 2))
        self.wrong(1, ("ann", 1, 2), ("ann", 1, 1))
        self.wrong(3, ("ann", 1, 2), ("ann", 2, 1), ("bob", 1, 1), ("bob", 1, 7))

    def test_the_first_of_several(self):
        self.wrong(0, ("dan", 1, 1), ("ann", 1, 1), ("ann", 1, 1))
        self.wrong(1, ("bob", 1, 1), ("ann", 1, 1), ("dan", 1, 1))

    def test_the_last_numbers_that_are_valid(self):
        lates = (("ann", 1, MANY), ("ann", MANY, MANY), ("bob", MANY, 1), ("cat", 1, 1))
        for rule in RULES:
            self.assertEqual(run(Lot(THREE), rule, lates, 20), play_by_words(Lot(THREE), rule, 20, lates))

    def test_the_201st(self):
        lates = tuple([("ann", turn, 1) for turn in range(1, 202)])
        self.assertEqual(run(Lot(THREE), "keen", lates[:200], 50), play_by_words(Lot(THREE), "keen", 50, lates[:200]))
        self.wrong(200, *lates)
        self.wrong(200, *lates, ("dan", 0, 0))
        self.wrong(200, *lates[:200], None)
        self.wrong(199, *lates[:199], ("ann", 199, 1), ("bob", 1, 1))

    def test_no_ticks(self):
        for value in (*ODD_VALUES, -1, 2001, 10 ** 60, "", "5", (5,)):
            self.fails(InvalidNumber, {"given": value}, run, Lot(THREE), "keen", (), value)
            self.fails(InvalidNumber, {"given": value}, run, Lot(THREE), "keen", (("ann", 1, 1),), value)
        self.assertEqual(run(Lot(THREE), "keen", (), 0), ((), None))
        self.assertEqual(len(run(Lot(THREE), "keen", (), 2000)[0]), 2000)
