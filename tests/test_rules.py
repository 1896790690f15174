import random
import unittest

from tests.lots_to_try import JUST, LESS, LONG, MORE, SMALL_LOTS, TOO_LONG, random_lots
from tests.slow import lot_of, order_by_words, play_by_words, standings_by_words, with_whole
from tests.support import NO_LOTS, ODD_VALUES, SHARES, THREE, ErrorCase
from tickshares.errors import InvalidNumber, InvalidRule, InvalidStanding, NotALot, TooMany
from tickshares.lots import Lot, fits
from tickshares.rules import RULES, missed, order_by, table_by
from tickshares.standings import standings
from tickshares.tables import is_table

FAR = 10 ** 30

NO_RULES = (*ODD_VALUES, "", "Nearest", "nearest ", "near", "keen\n", "nearestoverlap", "behind,keen", 0, 1, ("keen",), ["keen"],
            RULES, b"keen")


class OrderTest(unittest.TestCase):
    def held(self, lot, moment, had):
        """Each rule puts the works as the words do that are asked for a moment of the first round."""
        rounds, within = moment // lot.span, moment % lot.span
        whole = tuple([top * lot.span // bottom for top, bottom in lot.shares])
        for rule in RULES:
            wanted = order_by_words(lot, rule, within, had)
            self.assertEqual(order_by(lot, rule, moment, with_whole(had, whole, rounds)), wanted, (str(lot), rule, moment, had))

    def test_all_standings_near(self):
        for lot in SMALL_LOTS:
            for moment in range(min(lot.span, 12) + 1):
                for had in standings_by_words(lot, moment % lot.span):
                    self.held(lot, moment if moment < lot.span else 0, had)

    def test_random_standings(self):
        chance = random.Random(11)
        for _ in range(300):
            lot = lot_of(chance.randint(1, 6), *chance.choices(SHARES, k=chance.randint(1, 6)))
            moment = chance.randrange(lot.span)
            self.held(lot, moment, chance.choice(standings_by_words(lot, moment)))

    def test_far(self):
        chance = random.Random(12)
        for lot in (*SMALL_LOTS, *LONG, *TOO_LONG):
            for moment in (FAR, FAR - 1, FAR // lot.span * lot.span - 1, 10 ** 20 + 3):
                self.held(lot, moment, chance.choice(standings_by_words(lot, moment % lot.span)))

    def test_the_words_far_away(self):
        lot = Lot(THREE)
        moment = 6 * 10 ** 20 + 1
        had = (4 * 10 ** 20 + 1, 3 * 10 ** 20, 5 * 10 ** 20 + 1)
        for rule in RULES:
            self.assertEqual(order_by(lot, rule, moment, had), order_by_words(lot, rule, moment, had))

    def test_who_is_not_due_is_not_put(self):
        lot = lot_of(1, (1, 2), (1, 2))
        for rule in RULES:
            self.assertEqual(order_by(lot, rule, 1, (1, 1)), ())
            self.assertEqual(order_by(lot, rule, 1, (1, 0)), (1,))
            self.assertEqual(order_by(lot, rule, 2, (1, 1)), (0, 1))

    def test_the_hands_do_not_count(self):
        for hands in range(1, 7):
            self.assertEqual(order_by(Lot(THREE).with_hands(hands), "keen", 0, (0, 0, 0)), (2, 0, 1))

    def test_each_rule_has_an_order_of_its_own(self):
        # The turns have these borders, overlaps and group borders: (2, yes, 3), (2, no, 2), (2, yes, 6), (3, yes, 3).
        lot = lot_of(1, (2, 3), (1, 2), (5, 6), (3, 7))
        self.assertEqual(order_by(lot, "nearest", 0, (0, 0, 0, 0)), (0, 1, 2, 3))
        self.assertEqual(order_by(lot, "overlap", 0, (0, 0, 0, 0)), (0, 2, 1, 3))
        self.assertEqual(order_by(lot, "keen", 0, (0, 0, 0, 0)), (2, 0, 1, 3))
        self.assertEqual(order_by(lot, "behind", 0, (0, 0, 0, 0)), (2, 0, 1, 3))
        # Both overlap and have the border 3; the group border of the first one is 0, as its share is less than a half.
        lot = lot_of(1, (2, 5), (3, 4))
        self.assertEqual([order_by(lot, rule, 1, (0, 1)) for rule in RULES], [(0, 1), (0, 1), (1, 0), (0, 1)])

    def test_twos_of_equal_shares(self):
        for share in SHARES:
            lot = lot_of(1, share, share, share)
            for rule in RULES:
                self.assertEqual(order_by(lot, rule, 0, (0, 0, 0)), (0, 1, 2))


class PlayTest(unittest.TestCase):
    def held(self, lot, ticks):
        """Each rule misses what the words miss within so many ticks, or nothing, and has their table."""
        for rule in RULES:
            told, lost = play_by_words(lot, rule, ticks)
            self.assertEqual(missed(lot, rule), lost, (str(lot), rule))
            self.assertEqual(table_by(lot, rule), told[:lot.span] if lost is None else None, (str(lot), rule))
            if lost is None:
                self.assertEqual(told, (told[:lot.span] * (ticks // lot.span + 1))[:ticks])
                self.assertIs(is_table(lot, table_by(lot, rule)), True)

    def test_small_lots_for_two_rounds(self):
        for lot in (*LESS, *JUST, *MORE):
            self.held(lot, 2 * lot.span)

    def test_small_lots_with_other_hands(self):
        for lot in (*LESS, *JUST, *MORE):
            for hands in range(1, 7):
                self.held(lot.with_hands(hands), lot.span)

    def test_random_lots(self):
        for lot in random_lots(60, 13):
            self.held(lot, lot.span)

    def test_long_rounds(self):
        for lot in LONG:
            self.held(lot, lot.span)

    def test_nothing_is_missed_just_if_it_could_be_kept(self):
        for lot in (*SMALL_LOTS, *LONG):
            for rule in RULES:
                self.assertIs(missed(lot, rule) is None, table_by(lot, rule) is not None)
                if not fits(lot):
                    self.assertIsNotNone(missed(lot, rule))

    def test_a_rule_may_miss_what_could_be_kept(self):
        tried = (
            ("nearest", lot_of(3, (3, 4), (3, 4), (5, 8), (7, 8)), (8, "d", 7)),
            ("overlap", lot_of(4, (3, 4), (3, 4), (3, 4), (7, 8), (7, 8)), (8, "e", 7)),
            ("behind", lot_of(4, (1, 2), (8, 9), (1, 3), (1, 2), (8, 9), (8, 9)), (18, "f", 16)),
        )
        for rule, lot, lost in tried:
            self.held(lot, lot.span)
            self.assertEqual((fits(lot), missed(lot, rule), table_by(lot, rule)), (True, lost, None))

    def test_of_several_at_one_moment_the_earliest_work(self):
        for rule in RULES:
            self.assertEqual(missed(lot_of(1, *[(1, 1)] * 6), rule), (1, "b", 1))
            self.assertEqual(missed(lot_of(3, *[(1, 2)] * 6), rule), None)
            self.assertEqual(missed(lot_of(2, *[(1, 2)] * 6), rule), (2, "e", 1))

    def test_missed_at_the_very_end_of_the_round(self):
        # Fifteen ticks of sixteen are wanted by the one, two by the others: the last border is missed.
        lot = lot_of(1, (15, 16), (1, 16), (1, 16))
        for rule in RULES:
            self.assertEqual(missed(lot, rule), play_by_words(lot, rule, 16)[1])
            self.assertEqual(missed(lot, rule)[0] <= 16, True)
        self.assertEqual(missed(lot, "nearest"), (16, "c", 1))


class ArgumentsTest(ErrorCase):
    def test_the_rules(self):
        self.assertEqual(RULES, ("nearest", "overlap", "keen", "behind"))
        self.assertIs(type(RULES), tuple)

    def test_by_name(self):
        lot = Lot(THREE)
        self.assertEqual(order_by(standing=(0, 0, 0), moment=0, rule="keen", lot=lot), (2, 0, 1))
        self.assertEqual(missed(rule="behind", lot=lot), None)
        self.assertEqual(table_by(rule="keen", lot=lot), table_by(lot, "keen"))

    def test_twice_the_same(self):
        for rule in RULES:
            self.assertEqual(table_by(Lot(THREE), rule), table_by(Lot(THREE), rule))
            self.assertEqual(missed(MORE[0], rule), missed(Lot(str(MORE[0])), rule))

    def test_no_lots(self):
        for value in NO_LOTS:
            self.fails(NotALot, {"given": value}, order_by, value, "none", -1, None)
            self.fails(NotALot, {"given": value}, table_by, value, "none")
            self.fails(NotALot, {"given": value}, missed, value, "none")

    def test_no_rules(self):
        for lot in (Lot(THREE), MORE[0], TOO_LONG[0]):
            for value in NO_RULES:
                self.fails(InvalidRule, {"given": value}, order_by, lot, value, -1, None)
                self.fails(InvalidRule, {"given": value}, order_by, lot, value, 0, (0, 0, 0))
                self.fails(InvalidRule, {"given": value}, table_by, lot, value)
                self.fails(InvalidRule, {"given": value}, missed, lot, value)

    def test_no_moments(self):
        for value in (*ODD_VALUES, -1, FAR + 1, 10 ** 60, "0", "", "ann"):
            for lot in (Lot(THREE), TOO_LONG[0]):
                self.fails(InvalidNumber, {"given": value}, order_by, lot, "keen", value, None)
                self.fails(InvalidNumber, {"given": value}, order_by, lot, "keen", value, (0, 0, 0))

    def test_no_standings(self):
        for value in (*ODD_VALUES, 0, "", "000", (0, 0), (0, 0, 0, 0), [0, 0, 0], (0, 0, 1), (False, 0, 0), (0, 0, -1), (0, 0, "0")):
            for lot in (Lot(THREE), TOO_LONG[0], TOO_LONG[2]):
                for rule in RULES:
                    self.fails(InvalidStanding, {"given": value}, order_by, lot, rule, 0, value)

    def test_standings_of_another_moment(self):
        lot = Lot(THREE)
        for moment in range(8):
            for had in standings(lot, moment + 1):
                if had not in standings(lot, moment):
                    self.fails(InvalidStanding, {"given": had}, order_by, lot, "keen", moment, had)

    def test_too_long_a_round(self):
        for lot in TOO_LONG:
            for rule in RULES:
                self.fails(TooMany, {"limit": 720}, table_by, lot, rule)
                self.fails(TooMany, {"limit": 720}, missed, lot, rule)
                self.assertEqual(set(order_by(lot, rule, 0, (0,) * len(lot.shares))), set(range(len(lot.shares))))
