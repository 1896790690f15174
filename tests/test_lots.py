import unittest
from fractions import Fraction

from tests.support import ODD_VALUES, SHARES, THREE, Agreeable, ErrorCase
from tickshares.errors import InvalidText, NotALot
from tickshares.lots import Lot, fits

SIX = "hands 6\n" + "\n".join([f"work {name} 1/2" for name in ("a", "bb", "abcdefgh", "zzzzzzzz", "work", "hands")])

# Each is one sign, row or word away from a text of a lot.
NO_TEXTS = (
    "", " ", "\n", "hands", "hands 2", "hands 2\n", "hands 2\n\n", "work ann 2/3",
    "hands 2\nwork ann 2/3\n", "\nhands 2\nwork ann 2/3", "hands 2\n\nwork ann 2/3", "hands 2\nwork ann 2/3\n\nwork b 1/2",
    "hands 2work ann 2/3", "hands 2 work ann 2/3", "hands 2\nwork ann 2/3work bob 1/2", "hands 2\nwork ann 2/3 work bob 1/2",
    " hands 2\nwork ann 2/3", "hands 2 \nwork ann 2/3", "hands  2\nwork ann 2/3", "hands2\nwork ann 2/3",
    "hands\n2\nwork ann 2/3", "hands 2\n work ann 2/3", "hands 2\nwork ann 2/3 ", "hands 2\nwork  ann 2/3",
    "hands 2\nwork ann  2/3", "hands 2\nworkann 2/3", "hands 2\nwork ann2/3", "hands 2\nwork ann 2 /3",
    "hands 2\nwork ann 2/ 3", "hands 2\nwork ann\n2/3", "hands 2\nwork\nann 2/3",
    "hand 2\nwork ann 2/3", "Hands 2\nwork ann 2/3", "hands: 2\nwork ann 2/3", "hands 2\nworks ann 2/3",
    "hands 2\nWork ann 2/3", "hands 2\nann 2/3", "hands 2\nwork 2/3", "hands 2\nwork ann", "hands 2\nwork ann ",
    "2\nwork ann 2/3", "hands 2 3\nwork ann 2/3", "hands 2\nhands 2\nwork ann 2/3", "work ann 2/3\nhands 2",
    "hands 2\nwork ann 2/3\nhands 2", "hands 2\nwork ann 2/3 now", "hands 2\nwork ann bob 2/3",
    "hands 0\nwork ann 2/3", "hands 7\nwork ann 2/3", "hands 10\nwork ann 2/3", "hands 02\nwork ann 2/3",
    "hands +2\nwork ann 2/3", "hands -2\nwork ann 2/3", "hands 2.\nwork ann 2/3", "hands 2.0\nwork ann 2/3",
    "hands two\nwork ann 2/3", "hands 0x2\nwork ann 2/3", "hands 1_0\nwork ann 2/3", "hands \nwork ann 2/3",
    "hands " + "1" * 61 + "\nwork ann 2/3", "hands " + "1" * 3900 + "\nwork ann 2/3",
    "hands 2\nwork ann 02/3", "hands 2\nwork ann 2/03", "hands 2\nwork ann +2/3", "hands 2\nwork ann 2/+3",
    "hands 2\nwork ann -2/3", "hands 2\nwork ann 2/-3", "hands 2\nwork ann -2/-3", "hands 2\nwork ann 2//3",
    "hands 2\nwork ann 2/3/", "hands 2\nwork ann /2/3", "hands 2\nwork ann 2/3/1", "hands 2\nwork ann 2/",
    "hands 2\nwork ann /3", "hands 2\nwork ann /", "hands 2\nwork ann 23", "hands 2\nwork ann 1", "hands 2\nwork ann 2:3",
    "hands 2\nwork ann 2|3", "hands 2\nwork ann (2,3)", "hands 2\nwork ann 0.5", "hands 2\nwork ann a/b",
    "hands 2\nwork ann 2/4", "hands 2\nwork ann 6/9", "hands 2\nwork ann 2/2", "hands 2\nwork ann 16/16",
    "hands 2\nwork ann 4/3", "hands 2\nwork ann 2/1", "hands 2\nwork ann 16/15", "hands 2\nwork ann 0/1",
    "hands 2\nwork ann 0/3", "hands 2\nwork ann 1/0", "hands 2\nwork ann 0/0", "hands 2\nwork ann 00/1",
    "hands 2\nwork ann 1/17", "hands 2\nwork ann 16/17", "hands 2\nwork ann 1/100", "hands 2\nwork ann 1/" + "9" * 3900,
    "hands 2\nwork ann " + "9" * 1900 + "/" + "9" * 1901,
    "hands 2\nwork Ann 2/3", "hands 2\nwork anN 2/3", "hands 2\nwork a1 2/3", "hands 2\nwork a-b 2/3",
    "hands 2\nwork a_b 2/3", "hands 2\nwork a. 2/3", "hands 2\nwork abcdefghi 2/3", "hands 2\nwork 1 2/3",
    "hands 2\nwork {a 2/3", "hands 2\nwork `a 2/3", "hands 2\nwork " + "a" * 3900 + " 2/3",
    "hands 2\nwork ann 2/3\nwork ann 2/3", "hands 2\nwork ann 2/3\nwork bob 1/2\nwork ann 1/3",
    SIX + "\nwork seven 1/2", SIX + "\nwork a 1/2", SIX.replace("hands 6", "hands 7"),
    "hands 2\nwork ann 2/3\nwork bob", "hands 2\nwork ann 2/3\nwork bob 2/4", "hands 2;work ann 2/3",
    "hands 2\n" + "\n".join(["work ann 1/2"] * 300),
)


class TextTest(ErrorCase):
    def test_texts(self):
        lot = Lot(THREE)
        self.assertEqual(lot.text, THREE)
        self.assertEqual(lot.hands, 2)
        self.assertEqual(lot.names, ("ann", "bob", "cat"))
        self.assertEqual(lot.shares, ((2, 3), (1, 2), (5, 6)))
        self.assertEqual(lot.total, (2, 1))
        self.assertEqual(lot.span, 6)

    def test_by_name(self):
        self.assertEqual(Lot(text=THREE).text, THREE)

    def test_one_work(self):
        lot = Lot("hands 1\nwork z 1/1")
        self.assertEqual((lot.hands, lot.names, lot.shares, lot.total, lot.span), (1, ("z",), ((1, 1),), (1, 1), 1))

    def test_six_works(self):
        lot = Lot(SIX)
        self.assertEqual(lot.names, ("a", "bb", "abcdefgh", "zzzzzzzz", "work", "hands"))
        self.assertEqual((lot.hands, lot.shares, lot.total, lot.span), (6, ((1, 2),) * 6, (3, 1), 2))

    def test_the_order_is_that_of_the_text(self):
        self.assertEqual(Lot("hands 1\nwork b 1/3\nwork a 1/4\nwork c 1/5").names, ("b", "a", "c"))

    def test_each_number_of_hands(self):
        for hands in range(1, 7):
            self.assertEqual(Lot(f"hands {hands}\nwork a 1/2").hands, hands)

    def test_each_pair_of_numbers(self):
        for bottom in range(0, 19):
            for top in range(0, 19):
                text = f"hands 1\nwork a {top}/{bottom}"
                with self.subTest(text=text):
                    if (top, bottom) in SHARES:
                        self.assertEqual(Lot(text).shares, ((top, bottom),))
                        self.assertEqual(Lot(text).total, (top, bottom))
                        self.assertEqual(Lot(text).span, bottom)
                    else:
                        self.fails(InvalidText, {"given": text}, Lot, text)

    def test_total_and_span_of_pairs(self):
        for one in SHARES[::3]:
            for other in SHARES[::2]:
                lot = Lot(f"hands 1\nwork a {one[0]}/{one[1]}\nwork b {other[0]}/{other[1]}")
                total = Fraction(*one) + Fraction(*other)
                span = next(k for k in range(1, 300) if k % one[1] == 0 and k % other[1] == 0)
                self.assertEqual(lot.total, (total.numerator, total.denominator))
                self.assertEqual(lot.span, span)

    def test_a_round_above_all_limits(self):
        parts = (16, 15, 13, 11, 7, 9)
        lot = Lot("hands 1\n" + "\n".join([f"work {'abcdef'[at]} 1/{part}" for at, part in enumerate(parts)]))
        total = sum([Fraction(1, part) for part in parts])
        self.assertEqual(lot.span, 720720)
        self.assertEqual(lot.total, (total.numerator, total.denominator))

    def test_no_texts(self):
        for text in NO_TEXTS:
            with self.subTest(text=text):
                self.fails(InvalidText, {"given": text}, Lot, text)
                self.fails(InvalidText, {"given": text}, Lot, text=text)

    def test_one_sign_taken_out_or_put_in(self):
        text = "hands 2\nwork ann 2/3"
        right = {"hands 2\nwork an 2/3", "hands 2\nwork nn 2/3", "hands 1\nwork ann 2/3"}
        right |= {f"hands {k}\nwork ann 2/3" for k in range(1, 7)}
        right |= {f"hands 2\nwork ann {top}/{bottom}" for top, bottom in SHARES}
        names = {"ann"[:at] + sign + "ann"[at + cut:] for at in range(4) for sign in "abz" for cut in (0, 1)}
        right |= {f"hands 2\nwork {name} 2/3" for name in names}
        for at in range(len(text) + 1):
            for sign in ("", " ", "\n", "0", "1", "2", "3", "7", "-", "+", "/", "a", "b", "z", "A", "_", "."):
                for cut in (0, 1):
                    changed = text[:at] + sign + text[at + cut:]
                    with self.subTest(text=changed):
                        if changed in right:
                            self.assertEqual(Lot(changed).text, changed)
                        else:
                            self.fails(InvalidText, {"given": changed}, Lot, changed)

    def test_values_that_are_no_strings(self):
        for value in (*ODD_VALUES, 0, 1, -3, THREE.encode(), (THREE,), [THREE], tuple(THREE.split("\n"))):
            with self.subTest(value=repr(value)):
                self.fails(InvalidText, {"given": value}, Lot, value)


class LooksTest(unittest.TestCase):
    def test_str(self):
        for text in (THREE, SIX, "hands 1\nwork z 1/1"):
            self.assertEqual(str(Lot(text)), text)

    def test_repr(self):
        self.assertEqual(repr(Lot(THREE)), "Lot of 3 works, 2 hands")
        self.assertEqual(repr(Lot(SIX)), "Lot of 6 works, 6 hands")
        self.assertEqual(repr(Lot("hands 1\nwork z 1/1")), "Lot of 1 works, 1 hands")

    def test_truth(self):
        self.assertIs(bool(Lot(THREE)), True)
        self.assertIs(bool(Lot("hands 1\nwork z 1/16")), True)

    def test_equal_lots(self):
        self.assertIs(Lot(THREE) == Lot(THREE), True)
        self.assertIs(Lot(THREE) != Lot(THREE), False)
        self.assertEqual(Lot(THREE).with_hands(1).with_hands(2), Lot(THREE))

    def test_other_lots(self):
        for text in (THREE.replace("hands 2", "hands 3"), THREE.replace("ann", "ana"), THREE.replace("1/2", "1/3"),
                     "hands 2\nwork bob 1/2\nwork ann 2/3\nwork cat 5/6", "hands 2\nwork ann 2/3\nwork bob 1/2"):
            self.assertIs(Lot(THREE) == Lot(text), False)
            self.assertIs(Lot(THREE) != Lot(text), True)

    def test_values_of_other_classes(self):
        for value in (THREE, 0, 2, "", *[value for value in ODD_VALUES if not isinstance(value, Lot)]):
            with self.subTest(value=repr(value)):
                self.assertIs(Lot(THREE) == value, False)
                self.assertIs(Lot(THREE) != value, True)
                if not isinstance(value, Agreeable):
                    self.assertIs(value == Lot(THREE), False)
                    self.assertIs(value != Lot(THREE), True)

    def test_what_is_told_cannot_be_set(self):
        lot = Lot(THREE)
        for name in ("text", "hands", "names", "shares", "total", "span"):
            with self.assertRaises(AttributeError):
                setattr(lot, name, 1)
        self.assertEqual(lot, Lot(THREE))


class FitsTest(ErrorCase):
    def test_fits(self):
        for shares, hands in (((1, 2), (1, 2)), 1), (((1, 1), (1, 1), (1, 1)), 3), (((2, 3), (1, 2), (5, 6)), 2):
            works = "\n".join([f"work {'abc'[at]} {top}/{bottom}" for at, (top, bottom) in enumerate(shares)])
            self.assertIs(fits(Lot(f"hands {hands}\n{works}")), True)
            self.assertIs(fits(Lot(f"hands {hands + 1}\n{works}")), True)
            self.assertIs(fits(lot=Lot(f"hands {hands}\n{works}\nwork z 1/16")), False)

    def test_fits_by_the_least_more(self):
        self.assertIs(fits(Lot("hands 1\nwork a 1/2\nwork b 1/3\nwork c 1/6")), True)
        self.assertIs(fits(Lot("hands 1\nwork a 1/2\nwork b 1/3\nwork c 2/11")), False)
        self.assertIs(fits(Lot("hands 1\nwork a 15/16\nwork b 1/15")), False)
        self.assertIs(fits(Lot("hands 1\nwork a 14/15\nwork b 1/16")), True)

    def test_no_lots(self):
        for value in (*[value for value in ODD_VALUES if not isinstance(value, Lot)], THREE, 0, "", Lot):
            with self.subTest(value=repr(value)):
                self.fails(NotALot, {"given": value}, fits, value)
