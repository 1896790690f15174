import unittest
from itertools import product

from tests.lots_to_try import JUST, LESS, LONG, MORE, SMALL_LOTS, TOO_LONG, random_lots
from tests.slow import alive_by_words, all_kept, choices_by_words, lot_of, standings_by_words, with_whole
from tests.support import NO_LOTS, ODD_VALUES, SHARES, THREE, ErrorCase
from tickshares.errors import InvalidNumber, InvalidStanding, NotALot, TooMany
from tickshares.lots import Lot, fits
from tickshares.standings import alive, choices, standings

FAR = 10 ** 30


class StandingsTest(ErrorCase):
    def test_near(self):
        for lot in (*SMALL_LOTS, *random_lots(20, 1)):
            for moment in range(min(lot.span, 24) + 3):
                self.assertEqual(standings(lot, moment), tuple(standings_by_words(lot, moment)))

    def test_a_look_at_all_tuples(self):
        for lot in (*SMALL_LOTS[::3], *LONG[2:]):
            for moment in range(4):
                all_tuples = product(range(moment + 2), repeat=len(lot.shares))
                self.assertEqual(standings(lot, moment), tuple([had for had in all_tuples if all_kept(lot, moment, had)]))

    def test_each_share(self):
        for share in SHARES:
            for moment in range(20):
                wanted = [(number,) for number in range(20) if abs(number * share[1] - moment * share[0]) < share[1]]
                self.assertEqual(standings(lot_of(1, share), moment), tuple(wanted))

    def test_far(self):
        for lot in (*SMALL_LOTS, *LONG):
            for moment in (FAR, FAR - 1, FAR // 7, FAR // lot.span * lot.span, 10 ** 12 + 5):
                self.assertEqual(standings(lot, moment), tuple(standings_by_words(lot, moment)))

    def test_at_the_end_of_a_round_there_is_one(self):
        for lot in (*SMALL_LOTS, *LONG):
            whole = tuple([top * lot.span // bottom for top, bottom in lot.shares])
            self.assertEqual(standings(lot, 0), ((0,) * len(whole),))
            self.assertEqual(standings(lot, lot.span), (whole,))
            self.assertEqual(standings(lot, 3 * lot.span), (with_whole(whole, whole, 2),))

    def test_all_sixty_four(self):
        told = standings(lot_of(1, *[(1, 2)] * 6), 1)
        self.assertEqual(len(told), 64)
        self.assertEqual((told[0], told[1], told[63]), ((0,) * 6, (0, 0, 0, 0, 0, 1), (1,) * 6))


class AliveTest(unittest.TestCase):
    def held(self, lot, moments, stride=1):
        """What is alive, and the choices that there are (of each stride-th standing), are held against a slow walk."""
        living = alive_by_words(lot)
        whole = tuple([top * lot.span // bottom for top, bottom in lot.shares])
        for moment in moments:
            rounds, within = moment // lot.span, moment % lot.span
            wanted = sorted([with_whole(had, whole, rounds) for had in living[within]])
            self.assertEqual(alive(lot, moment), tuple(wanted))
            for had in standings_by_words(lot, within)[::stride]:
                told = choices(lot, moment, with_whole(had, whole, rounds))
                self.assertEqual(told, tuple(choices_by_words(lot, living, within, had)))

    def test_small_lots(self):
        for lot in SMALL_LOTS:
            with self.subTest(lot=str(lot)):
                self.held(lot, range(min(lot.span, 20) + 2))
                self.held(lot, (lot.span - 1, lot.span, 2 * lot.span - 1))

    def test_random_lots(self):
        for lot in random_lots(40, 2):
            with self.subTest(lot=str(lot)):
                self.held(lot, (0, 1, 2, lot.span // 2, lot.span - 1, lot.span))

    def test_far(self):
        for lot in SMALL_LOTS:
            with self.subTest(lot=str(lot)):
                self.held(lot, (FAR, FAR - 1, FAR // 3, FAR // lot.span * lot.span - 1))

    def test_long_rounds(self):
        for lot in LONG:
            with self.subTest(lot=str(lot)):
                self.assertEqual(lot.span, 720)
                self.held(lot, (0, 1, 77, 359, 360, 361, 500, 719, 720 * 10 ** 27 + 613, FAR), 5)

    def test_something_is_alive_just_if_the_lot_fits(self):
        for lots, wanted in ((LESS, True), (JUST, True), (MORE, False), (LONG, True)):
            for lot in lots:
                self.assertIs(fits(lot), wanted)
                for moment in (0, 1, lot.span // 2, lot.span, FAR):
                    self.assertIs(len(alive(lot, moment)) > 0, wanted)

    def test_dead_standings_of_a_lot_that_fits(self):
        lot = Lot(THREE)
        dead = [(moment, had) for moment in range(6) for had in standings(lot, moment) if had not in alive(lot, moment)]
        self.assertIn((1, (0, 0, 0)), dead)
        self.assertIn((2, (1, 1, 1)), dead)
        for moment, had in dead:
            self.assertEqual(choices(lot, moment, had), ())

    def test_no_hands_needed(self):
        self.assertEqual(choices(lot_of(1, (1, 16)), 0, (0,)), ((), (0,)))
        self.assertEqual(choices(lot_of(1, (1, 16)), 5, (1,)), ((),))
        self.assertEqual(choices(lot_of(1, (1, 16)), 15, (0,)), ((0,),))

    def test_they_are_ascending_as_tuples(self):
        self.assertEqual(choices(lot_of(3, (1, 2), (1, 2), (1, 2)), 0, (0, 0, 0)),
                         ((), (0,), (0, 1), (0, 1, 2), (0, 2), (1,), (1, 2), (2,)))


class ArgumentsTest(ErrorCase):
    def test_by_name(self):
        lot = Lot(THREE)
        self.assertEqual(standings(moment=1, lot=lot), standings(lot, 1))
        self.assertEqual(alive(moment=1, lot=lot), alive(lot, 1))
        self.assertEqual(choices(standing=(0, 0, 0), moment=0, lot=lot), ((0, 1), (0, 2), (1, 2)))

    def test_twice_the_same(self):
        lot = Lot(THREE)
        for action in (standings, alive):
            self.assertEqual(action(lot, 3), action(Lot(THREE), 3))
        self.assertEqual(choices(lot, 3, (2, 1, 3)), choices(Lot(THREE), 3, (2, 1, 3)))
        self.assertEqual(lot.text, THREE)

    def test_kinds(self):
        for told in (standings(Lot(THREE), 1), alive(Lot(THREE), 1), choices(Lot(THREE), 0, (0, 0, 0))):
            self.assertIs(type(told), tuple)
            for row in told:
                self.assertIs(type(row), tuple)
                self.assertEqual({type(number) for number in row}, {int})

    def test_no_lots(self):
        for value in NO_LOTS:
            self.fails(NotALot, {"given": value}, standings, value, -1)
            self.fails(NotALot, {"given": value}, alive, value, -1)
            self.fails(NotALot, {"given": value}, choices, value, -1, None)

    def test_no_moments(self):
        long = lot_of(3, (1, 16), (1, 9), (1, 7))
        for lot in (Lot(THREE), long):
            for value in (*ODD_VALUES, -1, FAR + 1, 10 ** 60, "0", "", "ann"):
                self.fails(InvalidNumber, {"given": value}, standings, lot, value)
                self.fails(InvalidNumber, {"given": value}, alive, lot, value)
                self.fails(InvalidNumber, {"given": value}, choices, lot, value, None)

    def test_no_standings(self):
        for lot in (Lot(THREE), Lot(THREE).with_hands(1), lot_of(6, (1, 16), (1, 9), (1, 7))):
            for value in (*ODD_VALUES, 0, 1, "", "000", (0, 0), (0, 0, 0, 0), [0, 0, 0], ((0, 0, 0),), (0, 0, -1), (0, 0, 1),
                          (False, 0, 0), (0, 0, False), (0, None, 0), ("0", 0, 0), (0, (0,), 0), (0, 0, 10 ** 60)):
                with self.subTest(value=repr(value)):
                    self.fails(InvalidStanding, {"given": value}, choices, lot, 0, value)

    def test_standings_bent_in_one_place(self):
        for lot in SMALL_LOTS[3::4]:
            for moment in (0, 1, 2, 5, lot.span, FAR):
                right = standings(lot, moment)
                for had in right[:3]:
                    for value in self.bent(had):
                        if value in right and {type(number) for number in value} == {int}:
                            choices(lot, moment, value)
                        else:
                            self.fails(InvalidStanding, {"given": value}, choices, lot, moment, value)

    def bent(self, had):
        """Values that differ from the standing in one place."""
        yield had[:-1]
        yield (*had, 0)
        yield had[1:]
        for at, number in enumerate(had):
            for other in (number - 1, number + 1, number - 2, number + 2, bool(number), str(number), (number,), None):
                yield (*had[:at], other, *had[at + 1:])

    def test_numbers_of_another_moment(self):
        lot = Lot(THREE)
        for moment in range(9):
            for other in range(9):
                for had in standings(lot, other):
                    if had not in standings(lot, moment):
                        self.fails(InvalidStanding, {"given": had}, choices, lot, moment, had)

    def test_too_long_a_round(self):
        for lot in TOO_LONG:
            self.assertGreater(lot.span, 720)
            for moment in (0, 1, FAR):
                self.fails(TooMany, {"limit": 720}, standings, lot, moment)
                self.fails(TooMany, {"limit": 720}, alive, lot, moment)
                self.fails(TooMany, {"limit": 720}, choices, lot, moment, tuple(standings_by_words(lot, moment))[0])
        self.assertEqual(len(standings(lot_of(3, (1, 16), (1, 9), (1, 5)), 1)), 8)
