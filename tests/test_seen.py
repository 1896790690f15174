import random
import unittest
from fractions import Fraction
from math import gcd

from tests.support import ODD_VALUES, ErrorCase
from tickshares.errors import InvalidLog, InvalidNumber
from tickshares.seen import bounds, shares_to, simplest

ALL_SHARES = [Fraction(top, bottom) for bottom in range(1, 61) for top in range(1, bottom + 1) if gcd(top, bottom) == 1]


def fits_by_words(log, share):
    """Whether a work with this share is kept at all moments up to the end of the log."""
    had = 0
    for moment, more in enumerate(log, 1):
        had += more
        if abs(had - moment * share) >= 1:
            return False
    return True


def log_of(share, many, chance):
    """A log of so many ticks of a work with this share, each one drawn as far as it can be."""
    told = []
    for moment in range(1, many + 1):
        fitting = [more for more in (0, 1) if abs(sum(told) + more - moment * share) < 1]
        told.append(chance.choice(fitting))
    return tuple(told)


def all_logs(many):
    return [tuple([at >> k & 1 for k in range(many)]) for at in range(1 << many)]


def drawn_logs():
    """Logs of shares, the same with a tick otherwise, and drawn ones."""
    chance = random.Random(41)
    logs = [(0,) * many for many in (1, 2, 9, 200)] + [(1,) * many for many in (1, 2, 9, 200)]
    for _ in range(100):
        share = chance.choice(ALL_SHARES)
        log = log_of(share, chance.choice((1, 2, 5, 12, 40, 199, 200)), chance)
        at = chance.randrange(len(log))
        logs += [log, (*log[:at], 1 - log[at], *log[at + 1:])]
    return logs + [tuple(chance.choices((0, 1), k=chance.randint(1, 9))) for _ in range(40)]


LOGS = drawn_logs()


class SeenTest(unittest.TestCase):
    def ends(self, log):
        """The greatest number that is too low and the lowest that is too high, by a look at all moments; 0 at least."""
        sums = [sum(log[:moment]) for moment in range(len(log) + 1)]
        lows = [Fraction(sums[moment] - 1, moment) for moment in range(1, len(log) + 1)]
        highs = [Fraction(sums[moment] + 1, moment) for moment in range(1, len(log) + 1)]
        return max(0, *lows), min(highs)

    def held(self, log):
        low, high = self.ends(log)
        told = bounds(log)
        if low >= high:
            self.assertIsNone(told, log)
            self.assertIsNone(simplest(log))
            return
        self.assertEqual(told, ((low.numerator, low.denominator), (high.numerator, high.denominator)), log)
        self.assertEqual([type(part) for end in told for part in end], [int] * 4)
        # Just behind each end, and at it, a share fits or does not, as far as it is a share.
        near = Fraction(1, 10 ** 9)
        for share, wanted in ((low, False), (low + near, True), (high, False), (high - near, True), (1, high > 1), ((low + high) / 2, True)):
            if 0 < share <= 1:
                self.assertIs(fits_by_words(log, share), wanted, (log, share))

    def test_small_logs(self):
        for many in range(1, 9):
            for log in all_logs(many):
                self.held(log)

    def test_logs(self):
        for log in LOGS:
            self.held(log)

    def test_share_by_share(self):
        for log in (*all_logs(4), *all_logs(6)[::5], *LOGS[::7]):
            fitting = [share for share in ALL_SHARES if fits_by_words(log, share)]
            self.share_by_share(log, fitting, 60)

    def test_smaller_bottoms(self):
        for log in (*all_logs(3), *LOGS[::19]):
            fitting = [share for share in ALL_SHARES if fits_by_words(log, share)]
            for number in (1, 2, 3, 7, 31, 59):
                self.share_by_share(log, fitting, number)

    def share_by_share(self, log, fitting, number):
        """All shares that fit with bottoms up to the number, and the simplest one."""
        fitting = sorted([share for share in fitting if share.denominator <= number])
        told = shares_to(log, number)
        self.assertEqual(told, tuple([(share.numerator, share.denominator) for share in fitting]))
        if fitting:
            least = min(fitting, key=lambda share: (share.denominator, share))
            self.assertEqual(simplest(log), (least.numerator, least.denominator))

    def test_simplest_beyond_sixty(self):
        chance = random.Random(42)
        for top, bottom in ((61, 122), (97, 101), (55, 89), (89, 144), (3, 199), (198, 199), (199, 200), (100, 199), (1, 200)):
            log = log_of(Fraction(top, bottom), 200, chance)
            told = simplest(log)
            share = Fraction(*told)
            self.assertEqual((share.numerator, share.denominator), told)
            self.assertTrue(fits_by_words(log, share))
            for lower in range(1, told[1] + 1):
                tops = [top for top in range(1, lower + 1) if fits_by_words(log, Fraction(top, lower))]
                self.assertEqual(min(tops, default=None), told[0] if lower == told[1] else None)

    def test_none_exactly_if_no_share_fits(self):
        self.assertIsNone(bounds((0, 0, 1, 1, 1, 1)))
        self.assertIsNone(simplest((1, 1, 0, 0, 0, 0)))
        self.assertEqual(shares_to((1, 1, 0, 0, 0, 0), 60), ())
        self.assertEqual((bounds((1, 1, 0, 0)), simplest((1, 1, 0, 0))), (((1, 2), (3, 4)), (2, 3)))

    def test_one_itself(self):
        self.assertEqual((bounds((1,) * 200), simplest((1,) * 200)), (((199, 200), (201, 200)), (1, 1)))
        self.assertEqual(shares_to((1,) * 200, 60), ((1, 1),))
        self.assertEqual(simplest((0,)), (1, 2))
        self.assertEqual((bounds((0,)), bounds((0, 1))), (((0, 1), (1, 1)), ((0, 1), (1, 1))))
        self.assertEqual((bounds((0,) * 200), simplest((0,) * 200)), (((0, 1), (1, 200)), (1, 201)))


class ArgumentsTest(ErrorCase):
    def test_by_name(self):
        self.assertEqual((bounds(log=(1, 0, 1)), simplest(log=(1, 0, 1))), (((1, 3), (1, 1)), (1, 2)))
        self.assertEqual(shares_to(number=4, log=(1, 0, 1)), ((1, 2), (2, 3), (3, 4)))

    def test_twice_the_same(self):
        for log in LOGS[::9]:
            again = tuple(list(log))
            self.assertEqual((bounds(log), simplest(log), shares_to(log, 9)), (bounds(again), simplest(again), shares_to(again, 9)))

    def wrong(self, index, log):
        """The log is refused, with this index, whatever the number is."""
        self.fails(InvalidLog, {"index": index}, bounds, log)
        self.fails(InvalidLog, {"index": index}, simplest, log)
        for number in (1, 60, 0, None):
            self.fails(InvalidLog, {"index": index}, shares_to, log, number)

    def test_no_tuple(self):
        for value in (None, True, 0, 1, "", "01", b"\x00\x01", [], [0, 1], {}, {0, 1}, object(), range(2), ()):
            self.wrong(None, value)

    def test_no_tick(self):
        for value in (*ODD_VALUES, -1, 2, 10 ** 60, "", "0", "1", (0,), [1]):
            self.wrong(0, (value,))
            self.wrong(0, (value, value, 1))
            self.wrong(3, (0, 1, 1, value))
            self.wrong(199, (*(1,) * 199, value, value))

    def test_the_201st(self):
        for part in (0, 1):
            self.assertIsNotNone(bounds((part,) * 200))
            self.wrong(200, (part,) * 201)
            self.wrong(200, (*(part,) * 200, None, part))
            self.wrong(7, (*(part,) * 7, True, *(part,) * 200))

    def test_no_number(self):
        for value in (*ODD_VALUES, 0, -1, 61, 10 ** 60, "1", "", (5,)):
            for log in ((0, 1), (0, 0, 1, 1, 1, 1)):
                self.fails(InvalidNumber, {"given": value}, shares_to, log, value)
