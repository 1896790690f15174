from tests.support import ODD_VALUES, SHARES, THREE, ErrorCase
from tickshares.errors import Alone, InvalidName, InvalidNumber, InvalidShare, TooMany, UnknownName
from tickshares.lots import Lot

NO_NAMES = ("", "abcdefghi", "Ann", "anN", "a b", " a", "a ", "a\n", "\n", "a1", "1", "a-b", "a_b", "`", "{", 0, 1, -1)

NO_SHARES = (
    (0, 1), (0, 3), (0, 0), (1, 0), (2, 1), (4, 3), (2, 2), (2, 4), (6, 9), (16, 16), (1, 17), (16, 17), (-1, 2), (1, -2),
    (-1, -2), (10 ** 60, 10 ** 60 + 1), (1, 10 ** 60), (True, 1), (True, 2), (1, True), (True, True), (False, 1),
    ("1", 2), (1, "2"), (1, None), (None, 2), ((1, 2), 3), (1, (2,)), ([1], 2), [1, 2], (1,), (1, 2, 3), "1/2", "12", b"12",
    {1: 2, 2: 1}, 0, 1, 2,
)


class PutTest(ErrorCase):
    def test_behind_the_others(self):
        lot = Lot(THREE)
        self.assertEqual(lot.put("abe", (1, 16)).text, THREE + "\nwork abe 1/16")
        self.assertEqual(lot.put("a", (1, 1)).put("b", (1, 2)).put("c", (15, 16)).names,
                         ("ann", "bob", "cat", "a", "b", "c"))
        self.assertEqual(lot, Lot(THREE))
        self.assertEqual((lot.text, lot.names, lot.total), (THREE, ("ann", "bob", "cat"), (2, 1)))

    def test_in_the_place_of_a_work(self):
        lot = Lot(THREE)
        self.assertEqual(lot.put("ann", (1, 7)).text, "hands 2\nwork ann 1/7\nwork bob 1/2\nwork cat 5/6")
        self.assertEqual(lot.put("bob", (1, 7)).text, "hands 2\nwork ann 2/3\nwork bob 1/7\nwork cat 5/6")
        self.assertEqual(lot.put("cat", (1, 7)).text, "hands 2\nwork ann 2/3\nwork bob 1/2\nwork cat 1/7")
        self.assertEqual(lot.put("bob", (1, 2)), lot)
        self.assertEqual(lot.text, THREE)

    def test_by_name(self):
        self.assertEqual(Lot(THREE).put(share=(1, 7), name="bob").shares, ((2, 3), (1, 7), (5, 6)))

    def test_each_share(self):
        for share in SHARES:
            self.assertEqual(Lot(THREE).put("dan", share).shares, ((2, 3), (1, 2), (5, 6), share))

    def test_more_than_fits_may_be_put(self):
        self.assertEqual(Lot("hands 1\nwork a 1/1").put("b", (1, 1)).total, (2, 1))

    def test_no_names(self):
        for value in (*ODD_VALUES, *NO_NAMES):
            with self.subTest(value=repr(value)):
                self.fails(InvalidName, {"given": value}, Lot(THREE).put, value, (1, 2))
                self.fails(InvalidName, {"given": value}, Lot(THREE).put, value, (1, 0))

    def test_no_shares(self):
        for value in (*ODD_VALUES, *NO_SHARES):
            with self.subTest(value=repr(value)):
                self.fails(InvalidShare, {"given": value}, Lot(THREE).put, "bob", value)
                self.fails(InvalidShare, {"given": value}, Lot(THREE).put, "dan", value)

    def test_too_many(self):
        six = Lot(THREE).put("d", (1, 2)).put("e", (1, 2)).put("f", (1, 2))
        self.fails(TooMany, {"limit": 6}, six.put, "g", (1, 2))
        self.assertEqual(six.put("f", (1, 3)).shares[5], (1, 3))
        self.fails(InvalidShare, {"given": (2, 4)}, six.put, "g", (2, 4))
        self.fails(InvalidName, {"given": "G"}, six.put, "G", (2, 4))
        self.assertEqual(six.names, ("ann", "bob", "cat", "d", "e", "f"))


class WithoutTest(ErrorCase):
    def test_without(self):
        lot = Lot(THREE)
        self.assertEqual(lot.without("ann").text, "hands 2\nwork bob 1/2\nwork cat 5/6")
        self.assertEqual(lot.without("bob").text, "hands 2\nwork ann 2/3\nwork cat 5/6")
        self.assertEqual(lot.without(name="cat").text, "hands 2\nwork ann 2/3\nwork bob 1/2")
        self.assertEqual(lot.without("ann").without("cat").text, "hands 2\nwork bob 1/2")
        self.assertEqual((lot.text, lot.names, lot.span), (THREE, ("ann", "bob", "cat"), 6))

    def test_unknown_names(self):
        for lot in (Lot(THREE), Lot("hands 1\nwork a 1/2")):
            for value in (*ODD_VALUES, *NO_NAMES, "dan", "an", "annn", "Ann", 0, ("a",), ("ann", "bob")):
                with self.subTest(value=repr(value)):
                    self.fails(UnknownName, {"given": value}, lot.without, value)

    def test_the_only_work(self):
        lot = Lot("hands 1\nwork a 1/2")
        self.fails(Alone, {}, lot.without, "a")
        self.fails(UnknownName, {"given": "b"}, lot.without, "b")
        self.assertEqual(lot.text, "hands 1\nwork a 1/2")


class WithHandsTest(ErrorCase):
    def test_with_hands(self):
        lot = Lot(THREE)
        for number in range(1, 7):
            self.assertEqual(lot.with_hands(number).text, THREE.replace("hands 2", f"hands {number}"))
            self.assertEqual(lot.with_hands(number=number).hands, number)
        self.assertEqual((lot.text, lot.hands), (THREE, 2))

    def test_no_numbers(self):
        for value in (*ODD_VALUES, 0, 7, -1, -2, 10 ** 60, "2", "", "hands 2"):
            with self.subTest(value=repr(value)):
                self.fails(InvalidNumber, {"given": value}, Lot(THREE).with_hands, value)
