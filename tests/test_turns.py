import unittest

from tests.support import ODD_VALUES, SHARES, THREE, ErrorCase
from tickshares.errors import InvalidNumber, NotALot, UnknownName
from tickshares.lots import Lot
from tickshares.turns import begin, border, group_border, overlaps, turns_up_to

FAR = 10 ** 30


def lot_of(share):
    """A lot in which the work w has the share."""
    return Lot(f"hands 1\nwork v 1/5\nwork w {share[0]}/{share[1]}\nwork x 3/7")


def counted(share, rounds, many):
    """The begins and the borders of so many turns from round `rounds` on, counted tick by tick from its start.

    The k-th turn of the round begins at the last moment m with m <= (k - 1) * p / e, and has its border at the first
    one with m >= k * p / e. Both are found by going from moment to moment.
    """
    top, bottom = share
    told = {}
    low, high = 0, 0
    for turn in range(1, many + 1):
        while (low + 1) * top <= (turn - 1) * bottom:
            low += 1
        while high * top < turn * bottom:
            high += 1
        told[rounds * top + turn] = (rounds * bottom + low, rounds * bottom + high)
    return told


def group_by_words(told, turn):
    """The least moment, not below the border of the turn, that one of the counted turns ends a group at."""
    moment = told[turn][1]
    while True:
        for other in told:
            if other + 1 not in told:
                continue
            first, last = told[other]
            if last == moment and last <= told[other + 1][0]:
                return moment
            if last == moment + 1 and last - first == 3:
                return moment
        moment += 1


class CountedTest(unittest.TestCase):
    def held(self, share, rounds, many):
        """The functions tell the same as the slow count, for so many turns and their moments."""
        top, bottom = share
        lot = lot_of(share)
        told = counted(share, rounds, many + 2 * top + 2)
        for turn in range(rounds * top + 1, rounds * top + many + 1):
            if turn > FAR:
                break
            self.assertEqual((begin(lot, "w", turn), border(lot, "w", turn)), told[turn])
            self.assertIs(overlaps(lot, "w", turn), told[turn][1] > told[turn + 1][0])
            wanted = 0 if 2 * top < bottom else group_by_words(told, turn)
            self.assertEqual(group_border(lot, "w", turn), wanted)

    def test_near(self):
        for share in SHARES:
            with self.subTest(share=share):
                self.held(share, 0, 2 * share[0] + 1)

    def test_far(self):
        for share in SHARES:
            with self.subTest(share=share):
                self.held(share, 10 ** 12 + 7, share[0])
                self.held(share, FAR // share[0] - 1, 2 * share[0])

    def moments_held(self, share, rounds):
        """turns_up_to tells the same as the slow count, for the moments of two rounds."""
        top, bottom = share
        told = counted(share, rounds, 3 * top)
        for moment in range(rounds * bottom, (rounds + 2) * bottom + 1):
            if moment > FAR:
                break
            ended = len([turn for turn in told if told[turn][1] <= moment])
            begun = len([turn for turn in told if told[turn][0] < moment])
            self.assertEqual(turns_up_to(lot_of(share), "w", moment), (rounds * top + ended, rounds * top + begun))

    def test_moments(self):
        for share in SHARES:
            with self.subTest(share=share):
                self.moments_held(share, 0)
                self.moments_held(share, 10 ** 12 + 7)
                self.moments_held(share, FAR // share[1] - 1)

    def test_the_last_moment(self):
        for share in SHARES:
            top, bottom = share
            ended, begun = turns_up_to(lot_of(share), "w", FAR)
            self.assertLessEqual(ended * bottom, FAR * top)
            self.assertGreater((ended + 1) * bottom, FAR * top)
            self.assertIn(begun - ended, (0, 1))
            self.assertEqual(begun == ended, FAR * top % bottom == 0)

    def test_turns_are_what_keeps_a_work(self):
        """The ticks of the turns are those that [7] leaves: less than 1 away from the share, up and down."""
        for top, bottom in SHARES:
            lot = lot_of((top, bottom))
            for turn in range(1, 2 * top + 2):
                first = next(t for t in range(99) if turn * bottom - (t + 1) * top < bottom)
                last = next(t for t in range(99) if t * top - (turn - 1) * bottom >= bottom)
                self.assertEqual((begin(lot, "w", turn), border(lot, "w", turn)), (first, last))

    def test_a_whole_share(self):
        lot = lot_of((1, 1))
        for turn in (1, 2, 77, FAR):
            self.assertEqual((begin(lot, "w", turn), border(lot, "w", turn)), (turn - 1, turn))
            self.assertIs(overlaps(lot, "w", turn), False)
            self.assertEqual(group_border(lot, "w", turn), turn)
        self.assertEqual(turns_up_to(lot, "w", FAR), (FAR, FAR))

    def test_the_half_and_what_is_below(self):
        self.assertEqual([group_border(lot_of((1, 2)), "w", turn) for turn in (1, 2, 3)], [2, 4, 6])
        self.assertEqual([group_border(lot_of((7, 15)), "w", turn) for turn in (1, 2, 7)], [0, 0, 0])
        self.assertEqual([group_border(lot_of((8, 15)), "w", turn) for turn in (1, 2, 8)], [3, 5, 15])

    def test_groups_that_end_with_three_ticks(self):
        # 3/5: the ticks of the turns are (0, 1), (1, 2, 3), (3, 4).
        self.assertEqual([group_border(lot_of((3, 5)), "w", turn) for turn in (1, 2, 3, 4)], [3, 5, 5, 8])

    def test_no_moment_and_the_first_one(self):
        lot = Lot(THREE)
        self.assertEqual([turns_up_to(lot, name, 0) for name in lot.names], [(0, 0)] * 3)
        self.assertEqual([turns_up_to(lot, name, 1) for name in lot.names], [(0, 1)] * 3)


class ArgumentsTest(ErrorCase):
    def test_by_name(self):
        lot = Lot(THREE)
        self.assertEqual(begin(turn=3, name="cat", lot=lot), 2)
        self.assertEqual(border(turn=3, name="cat", lot=lot), 4)
        self.assertIs(overlaps(turn=3, name="cat", lot=lot), True)
        self.assertEqual(group_border(turn=3, name="cat", lot=lot), 6)
        self.assertEqual(turns_up_to(moment=4, name="ann", lot=lot), (2, 3))

    def test_no_lot_comes_first(self):
        for action in (begin, border, overlaps, group_border, turns_up_to):
            for value in (*[value for value in ODD_VALUES if not isinstance(value, Lot)], THREE, "", 0, Lot):
                with self.subTest(action=action.__name__, value=repr(value)):
                    self.fails(NotALot, {"given": value}, action, value, "ann", 1)
                    self.fails(NotALot, {"given": value}, action, value, "zed", -1)

    def test_unknown_names_come_next(self):
        for action in (begin, border, overlaps, group_border, turns_up_to):
            for value in (*ODD_VALUES, "", "zed", "an", "Ann", "ann ", "work", 0, 1, -1):
                with self.subTest(action=action.__name__, value=repr(value)):
                    self.fails(UnknownName, {"given": value}, action, Lot(THREE), value, 1)
                    self.fails(UnknownName, {"given": value}, action, Lot(THREE), value, -1)
                    self.fails(UnknownName, {"given": value}, action, Lot(THREE), value, None)

    def test_no_turns(self):
        for action in (begin, border, overlaps, group_border):
            for value in (*ODD_VALUES, 0, -1, FAR + 1, -FAR, 10 ** 60, "1", "", "ann"):
                with self.subTest(action=action.__name__, value=repr(value)):
                    self.fails(InvalidNumber, {"given": value}, action, Lot(THREE), "ann", value)

    def test_no_moments(self):
        for value in (*ODD_VALUES, -1, FAR + 1, -FAR, 10 ** 60, "0", "", "ann"):
            with self.subTest(value=repr(value)):
                self.fails(InvalidNumber, {"given": value}, turns_up_to, Lot(THREE), "ann", value)

    def test_the_last_turn_is_one(self):
        lot = Lot(THREE)
        self.assertEqual(begin(lot, "bob", FAR), 2 * FAR - 2)
        self.assertEqual(group_border(lot, "bob", FAR), 2 * FAR)
