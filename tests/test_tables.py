import random
import unittest
from math import prod

from tests.lots_to_try import JUST, LESS, LONG, MORE, SMALL_LOTS, TOO_LONG, random_lots
from tests.slow import alive_by_words, lot_of, starts_of, tables_by_words
from tests.support import NO_LOTS, ODD_VALUES, SHARES, THREE, ErrorCase
from tickshares.errors import InvalidNumber, InvalidTable, NotALot, TooMany
from tickshares.lots import Lot, fits
from tickshares.tables import calm_table, count_tables, fewest_starts, is_table, nth_table, rank_of, table

# Lots with so few right tables that all of them can be looked at.
FEW = (
    lot_of(1, (1, 1)), lot_of(1, (1, 2)), lot_of(1, (2, 3)), lot_of(1, (1, 7)), lot_of(1, (3, 8)), lot_of(2, (1, 1), (1, 1)),
    lot_of(1, (1, 2), (1, 2)), lot_of(2, (1, 2), (1, 2)), lot_of(1, (1, 2), (1, 3)), lot_of(1, (1, 3), (1, 3), (1, 3)),
    lot_of(1, (3, 8), (5, 8)), lot_of(1, (1, 2), (1, 3), (1, 6)), lot_of(2, (2, 3), (1, 2), (5, 6)), lot_of(2, (3, 4), (1, 4)),
    lot_of(2, (3, 5), (4, 5), (3, 5)), lot_of(2, (1, 1), (1, 3), (2, 3)), lot_of(2, (1, 2), (1, 4), (3, 4), (1, 2)),
    lot_of(3, (2, 3), (2, 3), (2, 3), (1, 3), (1, 3)), lot_of(3, *[(1, 2)] * 6), lot_of(2, *[(1, 3)] * 6),
    lot_of(4, (2, 3), (2, 3), (2, 3), (2, 3), (2, 3)), lot_of(1, (1, 4), (1, 6), (1, 12)), lot_of(1, (2, 9), (1, 3)),
)

# Works for which there are hands whatever the others do, with rounds of up to 720.
ALONE = (
    lot_of(6, (1, 2), (2, 3), (3, 4), (4, 5), (5, 6), (1, 12)), lot_of(6, (7, 16), (9, 16), (8, 15), (7, 15), (4, 9), (5, 9)),
    lot_of(4, (15, 16), (1, 9), (2, 5)), lot_of(2, (3, 7), (5, 12)), lot_of(6, *[(8, 15)] * 3),
)


def even_spread(lot):
    """The tuple in which each work has a hand in the ticks in which its share, rounded down, grows."""
    return tuple([
        tuple([at for at, (top, bottom) in enumerate(lot.shares) if (tick + 1) * top // bottom > tick * top // bottom])
        for tick in range(lot.span)
    ])


class ListedTest(unittest.TestCase):
    def test_all_are_counted_and_numbered(self):
        for lot in FEW:
            with self.subTest(lot=str(lot)):
                listed = tables_by_words(lot)
                self.assertEqual(count_tables(lot), len(listed))
                for index in range(0, len(listed), 1 + len(listed) // 100):
                    self.assertEqual(nth_table(lot, index), listed[index])
                    self.assertEqual(rank_of(lot, listed[index]), index)
                self.assertEqual(nth_table(lot, len(listed) - 1), listed[-1])
                self.assertEqual(rank_of(lot, listed[-1]), len(listed) - 1)

    def test_each_of_them_is_one(self):
        for lot in FEW:
            listed = tables_by_words(lot)
            self.assertIs(all(is_table(lot, ticks) is True for ticks in listed), True)
            self.assertIn(table(lot), listed)

    def test_fewest_starts(self):
        for lot in FEW:
            with self.subTest(lot=str(lot)):
                listed = tables_by_words(lot)
                least = min([starts_of(ticks) for ticks in listed])
                self.assertEqual(fewest_starts(lot), least)
                self.assertIn(calm_table(lot), listed)
                self.assertEqual(starts_of(calm_table(lot)), least)

    def test_random_lots(self):
        for lot in random_lots(150, 3):
            if lot.span * len(lot.shares) <= 24:
                with self.subTest(lot=str(lot)):
                    listed = tables_by_words(lot)
                    self.assertEqual(count_tables(lot), len(listed))
                    self.assertEqual(fewest_starts(lot), min([starts_of(ticks) for ticks in listed], default=None))
                    self.assertIn(table(lot), listed or [None])
                    self.assertIn(calm_table(lot), listed or [None])

    def test_starts_of_the_share_of_one(self):
        self.assertEqual((fewest_starts(lot_of(1, (1, 1))), calm_table(lot_of(1, (1, 1)))), (0, ((0,),)))
        self.assertEqual((fewest_starts(lot_of(2, (1, 1), (1, 2))), rank_of(lot_of(1, (1, 1)), ((0,),))), (1, 0))


class IsTableTest(unittest.TestCase):
    def held(self, lot, value, listed):
        """It is a right table just if it is listed."""
        self.assertIs(is_table(lot, value), value in listed, repr(value))

    def test_bent_by_whole_ticks(self):
        for lot in FEW:
            listed = set(tables_by_words(lot))
            for ticks in sorted(listed)[::1 + len(listed) // 4]:
                for at in range(len(ticks)):
                    self.held(lot, ticks[:at] + ticks[at + 1:], listed)
                    self.held(lot, (*ticks[:at], ticks[at], *ticks[at:]), listed)
                    self.held(lot, (*ticks[:at], (), *ticks[at:]), listed)
                    for other in range(at):
                        swapped = list(ticks)
                        swapped[at], swapped[other] = swapped[other], swapped[at]
                        self.held(lot, tuple(swapped), listed)
                self.held(lot, ticks + ticks, listed)

    def test_bent_by_a_work(self):
        for lot in FEW:
            listed = set(tables_by_words(lot))
            many = len(lot.shares)
            for ticks in sorted(listed)[::1 + len(listed) // 4]:
                for at, crew in enumerate(ticks):
                    others = [crew[:k] + crew[k + 1:] for k in range(len(crew))] + [crew[::-1], tuple(range(many))]
                    for work in range(-1, many + 1):
                        others += [tuple(sorted([*crew, work])), (*crew, work), (work, *crew), (work,)]
                    for other in others:
                        self.held(lot, (*ticks[:at], other, *ticks[at + 1:]), listed)

    def test_bent_by_kinds(self):
        for lot in FEW:
            ticks = table(lot)
            self.assertIs(is_table(lot, list(ticks)), False)
            self.assertIs(is_table(lot, str(ticks)), False)
            for at, crew in enumerate(ticks):
                odd = [list(crew), set(crew), str(crew), None, 0, len(crew), {k: k for k in crew}, bytes(crew), "", range(2)]
                for k, work in enumerate(crew):
                    for value in (bool(work), str(work), (work,), [work], None, b"", work + 10 ** 60, -1, work - len(lot.shares)):
                        odd.append((*crew[:k], value, *crew[k + 1:]))
                for other in odd:
                    self.assertIs(is_table(lot, (*ticks[:at], other, *ticks[at + 1:])), False, repr(other))

    def test_more_works_than_hands(self):
        lot = lot_of(2, *[(1, 2)] * 4)
        self.assertIs(is_table(lot, ((0, 1), (2, 3))), True)
        self.assertIs(is_table(lot, ((0, 1, 2), (3,))), False)
        self.assertIs(is_table(lot.with_hands(3), ((0, 1, 2), (3,))), True)

    def test_a_work_twice_in_a_tick(self):
        lot = lot_of(2, (5, 6))
        self.assertIs(is_table(lot, ((), (0,), (0,), (0,), (0,), (0,))), True)
        self.assertIs(is_table(lot, ((), (0, 0), (0,), (0,), (0,), ())), False)

    def test_what_is_no_table_of_anything(self):
        for value in (*ODD_VALUES, 0, 1, -3, "", "ann", ((),), ((), (), ()), (((),),), THREE, Lot, [((0, 1),)]):
            for lot in (Lot(THREE), lot_of(1, (1, 1)), lot_of(1, (2, 3)), *MORE[:2]):
                self.assertIs(is_table(lot, value), False, repr(value))

    def test_no_table_of_a_lot_that_does_not_fit(self):
        for lot in MORE:
            self.assertIs(is_table(lot, even_spread(lot)), False)
            self.assertIs(is_table(lot.with_hands(6), even_spread(lot)), True)


class GreatTest(unittest.TestCase):
    def test_a_table_is_right_or_there_is_none(self):
        for lot in (*SMALL_LOTS, *LONG, *ALONE, *random_lots(60, 4)):
            with self.subTest(lot=str(lot)):
                told, calm, fewest = table(lot), calm_table(lot), fewest_starts(lot)
                self.assertIs(count_tables(lot) > 0, fits(lot))
                if fits(lot):
                    self.right(lot, told)
                    self.right(lot, calm)
                    self.assertEqual(starts_of(calm), fewest)
                    self.assertLessEqual(fewest, starts_of(told))
                else:
                    self.assertEqual((told, calm, fewest), (None, None, None))

    def right(self, lot, ticks):
        """It is a right table by the words of the document, which speak of all moments of two rounds here."""
        self.assertIs(is_table(lot, ticks), True)
        self.assertEqual(len(ticks), lot.span)
        had = [0] * len(lot.shares)
        for moment in range(2 * lot.span):
            crew = ticks[moment % lot.span]
            self.assertLessEqual(len(crew), lot.hands)
            self.assertEqual(list(crew), sorted(set(crew)))
            for at in crew:
                had[at] += 1
            for (top, bottom), number in zip(lot.shares, had):
                self.assertLess(abs(number * bottom - (moment + 1) * top), bottom)

    def test_there_and_back(self):
        chance = random.Random(5)
        for lot in (*LONG, *ALONE, *JUST, *LESS):
            many = count_tables(lot)
            for number in (0, many // 2, many - 1, chance.randrange(many)):
                ticks = nth_table(lot, number)
                self.assertIs(is_table(lot, ticks), True)
                self.assertEqual(rank_of(lot, ticks), number)
            self.assertLess(rank_of(lot, table(lot)), many)

    def test_there_are_more_than_could_be_listed(self):
        self.assertGreater(count_tables(LONG[0]), 10 ** 500)
        self.assertGreater(count_tables(ALONE[1]), 10 ** 800)

    def test_they_ascend(self):
        chance = random.Random(6)
        for lot in (*LONG, *ALONE[:2], *SMALL_LOTS[::3]):
            many = count_tables(lot)
            if many > 1:
                for number in (0, many - 2, chance.randrange(many - 1)):
                    self.assertLess(nth_table(lot, number), nth_table(lot, number + 1))

    def test_works_that_never_meet(self):
        """With a hand for each work the ways and the starts of each one stand alone."""
        for lot in ALONE:
            singles = [lot_of(1, share) for share in lot.shares]
            rounds = [lot.span // single.span for single in singles]
            counts = [len(tables_by_words(single)) ** many for single, many in zip(singles, rounds)]
            self.assertEqual(count_tables(lot), prod(counts))
            self.assertEqual(fewest_starts(lot), sum([self.starts_alone(share, lot.span) for share in lot.shares]))

    def starts_alone(self, share, span):
        """The fewest starts of a work alone: as few in each of its rounds, going round by round or across their ends."""
        top, bottom = share
        best = []
        for first in (0, 1):
            # By whether the work has a hand in the tick before, the fewest starts up to there.
            costs = {(0, first): 0}
            for moment in range(1, span + 1):
                after = {}
                for (number, had), cost in costs.items():
                    for more in (0, 1):
                        if abs((number + more) * bottom - moment * top) < bottom:
                            key = (number + more, more)
                            after[key] = min(after.get(key, 10 ** 9), cost + (more > had))
                costs = after
            best += [cost for (_, had), cost in costs.items() if had == first]
        return min(best)

    def test_few_alive(self):
        """All standings of right tables are alive."""
        for lot in JUST[2:6]:
            living = alive_by_words(lot)
            for ticks in (table(lot), calm_table(lot), nth_table(lot, count_tables(lot) - 1)):
                had = [0] * len(lot.shares)
                for moment, crew in enumerate(ticks):
                    self.assertIn(tuple(had), living[moment])
                    for at in crew:
                        had[at] += 1


class ArgumentsTest(ErrorCase):
    def test_by_name(self):
        lot = Lot(THREE)
        ticks = nth_table(number=2, lot=lot)
        self.assertEqual(ticks, nth_table(lot, 2))
        self.assertIs(is_table(value=ticks, lot=lot), True)
        self.assertEqual(rank_of(value=ticks, lot=lot), 2)
        self.assertEqual((count_tables(lot=lot), fewest_starts(lot=lot)), (count_tables(lot), fewest_starts(lot)))
        self.assertEqual((table(lot=lot), calm_table(lot=lot)), (table(lot), calm_table(lot)))

    def test_twice_the_same(self):
        for action in (table, count_tables, fewest_starts, calm_table):
            self.assertEqual(action(Lot(THREE)), action(Lot(THREE)))

    def test_no_lots(self):
        for value in NO_LOTS:
            for action in (table, count_tables, fewest_starts, calm_table):
                self.fails(NotALot, {"given": value}, action, value)
            self.fails(NotALot, {"given": value}, is_table, value, None)
            self.fails(NotALot, {"given": value}, nth_table, value, -1)
            self.fails(NotALot, {"given": value}, rank_of, value, None)

    def test_no_numbers(self):
        for lot in (Lot(THREE), MORE[0], *TOO_LONG):
            for value in (*ODD_VALUES, -1, -10 ** 60, "0", "", "ann"):
                self.fails(InvalidNumber, {"given": value}, nth_table, lot, value)

    def test_numbers_of_none(self):
        for lot in (*FEW, *LONG, *MORE):
            many = count_tables(lot)
            for value in (many, many + 1, many + 10 ** 60):
                self.fails(InvalidNumber, {"given": value}, nth_table, lot, value)

    def test_no_tables(self):
        for lot in (Lot(THREE), lot_of(1, (1, 1)), *MORE, *TOO_LONG):
            for value in (*ODD_VALUES, 0, "", ((),), ((0, 1),), [(0, 2), (1, 2), (0, 2), (0, 1), (0, 2), (1, 2)]):
                self.fails(InvalidTable, {"given": value}, rank_of, lot, value)
        for lot in (*MORE, TOO_LONG[2]):
            value = even_spread(lot)
            self.fails(InvalidTable, {"given": value}, rank_of, lot, value)

    def test_too_long_a_round(self):
        for lot in TOO_LONG:
            for action in (table, count_tables, fewest_starts, calm_table):
                self.fails(TooMany, {"limit": 720}, action, lot)
            for value in (*ODD_VALUES, even_spread(lot)):
                self.fails(TooMany, {"limit": 720}, is_table, lot, value)
            for number in (0, 1, 10 ** 60):
                self.fails(TooMany, {"limit": 720}, nth_table, lot, number)
        self.fails(TooMany, {"limit": 720}, rank_of, TOO_LONG[0], even_spread(TOO_LONG[0]))
        value = ((),) * 1008
        self.fails(InvalidTable, {"given": value}, rank_of, TOO_LONG[0], value)
        self.assertEqual(TOO_LONG[0].span, 1008)
