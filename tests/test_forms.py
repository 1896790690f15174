import random
import unittest
from fractions import Fraction

from tests.support import ODD_VALUES, ErrorCase
from tickshares.errors import InvalidForms, InvalidNumber
from tickshares.forms import fitting

FAR = 10 ** 30
MOST = 10 ** 9
ONE = ((0, 1), (1, 1))


def fits_by_words(forms, number, n):
    """Whether all forms stand for numbers above 0 and up to 1 at n that sum to no more than the number."""
    values = [Fraction(a * n + b, c * n + d) for (a, b), (c, d) in forms]
    return all(0 < value <= 1 for value in values) and sum(values) <= number


def drawn_form(chance, most):
    """A form with numbers up to the most, with zeros now and then."""
    a, b, c = [chance.choice((0, 1, chance.randint(0, most), chance.randint(0, most))) for _ in range(3)]
    if a == b == 0:
        b = 1
    return (a, b), (c, chance.randint(1, most))


def near_form(chance, most):
    """A form that comes near a share with a small bottom when n is great."""
    bottom = chance.randint(1, 6)
    top = chance.randint(1, bottom)
    times = chance.randint(1, most)
    return (top * times, chance.randint(0, most)), (bottom * times, chance.randint(1, most))


def moving_form(chance):
    """A form that goes from one share to another one, fast or slowly."""
    start, end, pace = chance.randint(1, 12), chance.randint(0, 12), 10 ** chance.randint(0, 6)
    return (end, start * pace), (12, 12 * pace)


class FittingTest(unittest.TestCase):
    def held(self, forms, number, chance, many=40):
        """The stretches are held against a slow look: small n, the ends of the stretches and what is around, drawn n."""
        told = fitting(forms, number)
        self.assertIs(type(told), tuple)
        looked = [*range(many), *[chance.randint(0, 10 ** chance.randint(1, 30)) for _ in range(20)], FAR]
        before = -1
        for at, (first, last) in enumerate(told):
            # At least one n lies between neighbouring stretches.
            self.assertGreater(first, before + (at > 0), (forms, number, told))
            if last is None:
                self.assertEqual(at, len(told) - 1)
                last = first + FAR
            self.assertLessEqual(first, last)
            looked += [first, first + 1, first - 1, last, last - 1, last + 1, (first + last) // 2, chance.randint(first, last)]
            before = last
        for n in looked:
            if n >= 0:
                within = any([first <= n and (last is None or n <= last) for first, last in told])
                self.assertIs(fits_by_words(forms, number, n), within, (forms, number, n, told))
        # What is far out is as it is for ever; such a number is greater than any at which something changes.
        self.assertIs(len(told) > 0 and told[-1][1] is None, fits_by_words(forms, number, 10 ** 60), (forms, number, told))
        return told

    def test_small_numbers(self):
        chance = random.Random(51)
        for _ in range(1500):
            forms = tuple([drawn_form(chance, chance.choice((3, 9, 40))) for _ in range(chance.randint(1, 4))])
            self.held(forms, chance.randint(1, 4), chance)

    def test_all_forms_of_small_numbers(self):
        chance = random.Random(52)
        pairs = [(first, second) for first in range(4) for second in range(4)]
        for top in pairs[1:]:
            for bottom in pairs:
                if bottom[1] > 0:
                    self.held(((top, bottom),), 1, chance, 12)
                    self.held(((top, bottom), ((1, 1), (2, 1))), 1, chance, 12)

    def test_near_shares(self):
        chance = random.Random(53)
        for most in (5, 30, 1000, MOST // 6):
            for _ in range(250):
                forms = tuple([near_form(chance, most) for _ in range(chance.randint(1, 4))])
                self.held(forms, chance.randint(1, 3), chance)

    def test_great_numbers(self):
        chance = random.Random(54)
        for _ in range(300):
            forms = tuple([drawn_form(chance, MOST) for _ in range(chance.randint(1, 4))])
            self.held(forms, chance.randint(1, 4), chance)

    def test_several_stretches(self):
        chance = random.Random(55)
        many = {}
        for _ in range(6000):
            forms = tuple([moving_form(chance) for _ in range(4)])
            number = chance.randint(1, 3)
            told = len(fitting(forms, number))
            if told > 1:
                many[told] = many.get(told, 0) + 1
                self.held(forms, number, chance)
        self.assertGreater(many[2], 100)
        self.assertGreater(many[3], 0)

    def test_two_stretches(self):
        # The one grows fast from 1/2 to 9/10, the other one fades slowly from 1/2 to nothing.
        told = self.held((((9, 5), (10, 10)), ((0, 100), (1, 200))), 1, random.Random(56), 1000)
        self.assertEqual(told, ((0, 0), (795, None)))
        told = self.held((((9, 5), (10, 10)), ((0, 100), (1, 200)), ((0, 9), (0, 10))), 2, random.Random(57), 1000)
        self.assertEqual(told[0][0], 0)

    def test_the_same_form_several_times(self):
        chance = random.Random(58)
        for _ in range(150):
            form = near_form(chance, chance.choice((4, 30, MOST // 6)))
            for many in (2, 3, 4):
                for number in range(1, 5):
                    self.held((form,) * many, number, chance, 12)

    def test_all_numbers_of_a_form_times_one(self):
        chance = random.Random(59)
        for _ in range(150):
            forms = [drawn_form(chance, 50) for _ in range(chance.randint(1, 4))]
            number = chance.randint(1, 3)
            told = fitting(tuple(forms), number)
            at = chance.randrange(len(forms))
            (a, b), (c, d) = forms[at]
            for times in (2, 7, MOST // 50):
                other = ((a * times, b * times), (c * times, d * times))
                self.assertEqual(fitting((*forms[:at], other, *forms[at + 1:]), number), told)

    def test_for_all_and_for_none(self):
        for forms, number, wanted in (
            ((((1, 1), (1, 1)),), 1, ((0, None),)), ((((1, 1), (1, 1)),) * 4, 4, ((0, None),)), ((((1, 1), (1, 1)),) * 4, 3, ()),
            ((((0, 1), (0, 1)),), 1, ((0, None),)), ((((0, 1), (0, 2)),) * 4, 2, ((0, None),)), ((((0, 2), (0, 1)),), 6, ()),
            ((((1, 0), (1, 1)),), 1, ((1, None),)), ((((1, 0), (0, 1)),), 1, ((1, 1),)), ((((2, 0), (0, 1)),), 1, ()),
            ((((1, 5), (0, 5)),), 1, ((0, 0),)), ((((0, 5), (1, 1)),), 1, ((4, None),)), ((((1, 0), (0, MOST)),), 1, ((1, MOST),)),
        ):
            self.assertEqual(fitting(forms, number), wanted)

    def test_far_ends(self):
        chance = random.Random(60)
        told = self.held((((MOST - 1, MOST), (MOST, 1)),), 1, chance)
        self.assertEqual(told, ((MOST - 1, None),))
        told = self.held((((MOST, 1), (MOST - 1, MOST)),), 1, chance)
        self.assertEqual(told, ((0, MOST - 1),))
        # The one comes near 1 / 2 from below, the other one from above: they fit from n = 1 on.
        told = self.held((((1, 0), (2, MOST)), ((1, 1), (2, 1))), 1, chance)
        self.assertEqual(told, ((1, None),))
        # 1 / (n + 1) beside 1 - 1 / 10 ** 9: there is room for it when n + 1 is 10 ** 9.
        told = self.held((((0, 1), (1, 1)), ((0, MOST - 1), (0, MOST))), 1, chance)
        self.assertEqual(told, ((MOST - 1, None),))

    def test_kinds(self):
        told = fitting((((1, 0), (0, 4)), ((1, 1), (1, 3))), 2)
        for first, last in told:
            self.assertIs(type(first), int)
            self.assertIn(type(last), (int, type(None)))


class ArgumentsTest(ErrorCase):
    def test_by_name(self):
        self.assertEqual(fitting(number=1, forms=(((1, 0), (0, 4)),)), ((1, 4),))

    def test_twice_the_same(self):
        forms = (((1, 0), (0, 4)), ((1, 1), (1, 3)))
        self.assertEqual(fitting(forms, 2), fitting(tuple(list(forms)), 2))

    def wrong(self, index, *forms):
        """The forms are refused, with this index, whatever the number is."""
        for number in (1, 6, 0, None):
            self.fails(InvalidForms, {"index": index}, fitting, forms, number)

    def test_no_tuple(self):
        for value in (None, True, 0, "", b"", [], [ONE], {}, {ONE}, {ONE: 1}, object(), ()):
            self.fails(InvalidForms, {"index": None}, fitting, value, 1)
            self.fails(InvalidForms, {"index": None}, fitting, value, 0)

    def test_no_form(self):
        a, b = ONE
        wrong = [*ODD_VALUES, 0, 1, "", "ann", (a, b, b), (a,), [a, b], (list(a), b), (a, list(b)), (a, (1, 1, 1)), ((0, 1, 1), b),
                 ((1,), b), (a, (1,)), ((), ()), (1, 1), (a, 1), ("ab", "cd"), (a, None), (None, b), ((0, 0), b), (a, (1, 0)),
                 (a, (0, 0))]
        for value in (-1, MOST + 1, 10 ** 60, True, False, None, "1", (1,), b"1", [1]):
            wrong += [((value, 1), b), ((1, value), b), (a, (value, 1)), (a, (1, value))]
        for value in wrong:
            with self.subTest(value=repr(value)):
                self.wrong(0, value)
                self.wrong(0, value, ONE, value)
                self.wrong(1, ONE, value)
                self.wrong(3, ONE, ONE, ONE, value)
                self.wrong(2, ONE, ONE, value, value, ONE)

    def test_the_fifth(self):
        self.assertEqual(fitting((ONE,) * 4, 4), ((0, None),))
        self.wrong(4, *(ONE,) * 5)
        self.wrong(4, *(ONE,) * 4, None)
        self.wrong(3, *(ONE,) * 3, None, ONE)

    def test_the_greatest_numbers_that_are_valid(self):
        self.assertEqual(fitting((((MOST, MOST), (MOST, MOST)),) * 4, 4), ((0, None),))
        self.assertEqual(fitting((((0, MOST), (0, 1)),), 6), ())

    def test_no_number(self):
        for value in (*ODD_VALUES, 0, 7, -1, 10 ** 60, "1", "", (1,)):
            self.fails(InvalidNumber, {"given": value}, fitting, (ONE,), value)
            self.fails(InvalidNumber, {"given": value}, fitting, (ONE,) * 4, value)
