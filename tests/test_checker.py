import random
import unittest
from itertools import combinations

from tests.claims import accepted_by_words, bent
from tests.lots_to_try import JUST, LESS, MORE, SMALL_LOTS, TOO_LONG, random_lots
from tests.slow import crews_up_to, layers_by_words, longest_by_words, lot_of, play_by_words, standings_by_words
from tests.support import ODD_VALUES, SHARES, THREE, Agreeable
from tests.test_seen import ALL_SHARES, all_logs, fits_by_words, log_of
from tests.test_tables import even_spread
from tickshares.checker import accepts
from tickshares.lots import Lot, fits
from tickshares.plans import plan
from tickshares.rules import RULES
from tickshares.tables import count_tables, nth_table, table

EVEN = "hands 1\nwork a 1/2\nwork b 1/2"
CROWD = "hands 1\nwork a 1/2\nwork b 2/3"

# Pairs of claims and certificates that are accepted, of all seven kinds.
RIGHT = (
    (("fits", EVEN), ((0,), (1,))),
    (("fits", THREE), ((0, 2), (1, 2), (0, 2), (0, 1), (0, 2), (1, 2))),
    (("fits", "hands 2\nwork w 1/3"), ((), (0,), ())),
    (("over", CROWD), ()),
    (("over", "hands 1\nwork a 1/1\nwork b 1/16"), ()),
    (("misses", CROWD, "nearest", (), 6, "b", 4), ()),
    (("misses", "hands 1\nwork ann 2/3\nwork bob 1/2", "nearest", (), 6, "bob", 3), ()),
    (("misses", CROWD, "keen", (("a", 1, 1), ("b", 1, 2), ("b", 3, 1)), 0, "", 0), ()),
    (("rule", EVEN, "nearest"), ()),
    (("rule", THREE, "keen"), ()),
    (("plan", EVEN, (0, 2)), ((), (0, 1))),
    (("plan", THREE, (2, 1, 3)), ((0, 1), (2,), (0, 2))),
    (("no plan", EVEN, (0, 1)), (((0, 0),), ((0, 0),), ())),
    (("no plan", "hands 6\nwork ann 2/3\nwork bob 1/2", (1, 1, 0, 2)), None),
    (("share", (1, 0, 1), 1, 2), ()),
    (("share", (0, 1, 1, 0, 1), 4, 7), ()),
)


def filled(claim, certificate):
    """The pair, with what is best found out where it leaves something open."""
    if claim[0] == "misses" and claim[4] == 0:
        lot = Lot(claim[1])
        return (*claim[:4], *play_by_words(lot, claim[2], 100, claim[3])[1]), certificate
    if certificate is None:
        return claim, layers_of(Lot(claim[1]), claim[2])
    return claim, certificate


def layers_of(lot, counts):
    """The certificate that there is no plan, by a slow walk."""
    return tuple([tuple(sorted(layer)) for layer in layers_by_words(lot, counts)])


class BentTest(unittest.TestCase):
    def held(self, claim, certificate):
        """The checker accepts just what the words accept."""
        told = accepts(claim, certificate)
        self.assertIs(told, accepted_by_words(claim, certificate), (claim, certificate))
        return told

    def test_right_ones(self):
        for claim, certificate in RIGHT:
            claim, certificate = filled(claim, certificate)
            self.assertIs(self.held(claim, certificate), True, claim)
            self.assertIs(accepts(claim=claim, certificate=certificate), True)
            self.assertIs(accepts(certificate=certificate, claim=claim), True)

    def test_claims_that_are_otherwise(self):
        for claim, certificate in RIGHT:
            claim, certificate = filled(claim, certificate)
            with self.subTest(claim=claim):
                told = [self.held(other, certificate) for other in bent(claim)]
                self.assertGreater(len(told), 50)
                self.assertLess(sum(told), len(told) // 2)

    def test_certificates_that_are_otherwise(self):
        for claim, certificate in RIGHT:
            claim, certificate = filled(claim, certificate)
            with self.subTest(claim=claim):
                for other in (*bent(certificate), *ODD_VALUES, 0, "", "()", ((),), [], (0,), ("",), (None,), claim):
                    self.held(claim, other)

    def test_each_certificate_for_each_claim(self):
        pairs = [filled(*pair) for pair in RIGHT]
        for claim, _ in pairs:
            for _, certificate in pairs:
                self.held(claim, certificate)

    def test_each_word_for_each_claim(self):
        for claim, certificate in [filled(*pair) for pair in RIGHT]:
            for word in ("fits", "over", "misses", "rule", "plan", "no plan", "share", "noplan", "no  plan", "", "Fits"):
                self.held((word, *claim[1:]), certificate)
                self.held((word, *claim[1:]), ())

    def test_odd_values_in_each_place(self):
        for claim, certificate in [filled(*pair) for pair in RIGHT]:
            for at in range(len(claim)):
                for value in (*ODD_VALUES, Agreeable()):
                    self.assertIs(accepts((*claim[:at], value, *claim[at + 1:]), certificate),
                                  accepted_by_words((*claim[:at], value, *claim[at + 1:]), certificate))
            for value in ODD_VALUES:
                self.assertIs(accepts(value, certificate), False)

    def test_it_raises_nothing(self):
        deep, deep_list = (), []
        for _ in range(20):
            deep, deep_list = (deep,), [deep_list]
        values = (*ODD_VALUES, deep, deep_list, "", "fits", 0, -1, 10 ** 60, ("fits",), ("fits", EVEN), ("share", deep, 1, 2),
                  ("no plan", EVEN, (0, 1)), ("plan", EVEN, deep), ("misses", EVEN, "keen", deep, 1, "a", 1),
                  (deep, deep), ("rule", EVEN, deep), ((),), ([],), ({},), (Agreeable(),) * 2, (Agreeable(),) * 7)
        for claim in values:
            for certificate in values:
                self.assertIs(accepts(claim, certificate), False)


class FitsTest(unittest.TestCase):
    def test_tables(self):
        chance = random.Random(91)
        for lot in (*LESS, *JUST, *random_lots(30, 92)):
            if fits(lot):
                for number in (0, count_tables(lot) - 1, chance.randrange(count_tables(lot))):
                    self.assertIs(accepts(("fits", str(lot)), nth_table(lot, number)), True)
            self.assertIs(accepts(("over", str(lot)), ()), not fits(lot))

    def test_never_both(self):
        for lot in (*SMALL_LOTS, *random_lots(40, 93)):
            told = [accepts(("fits", str(lot)), table(lot)), accepts(("over", str(lot)), ())]
            self.assertEqual(told, [fits(lot), not fits(lot)])
            if not fits(lot):
                self.assertIs(accepts(("fits", str(lot)), even_spread(lot)), False)

    def test_all_rows_of_crews_for_small_lots(self):
        for lot in (Lot(EVEN), lot_of(1, (2, 3)), lot_of(2, (1, 2), (1, 2)), Lot("hands 1\nwork a 1/2\nwork b 1/1")):
            crews = crews_up_to(len(lot.shares), 2)
            rows = [()]
            for _ in range(lot.span):
                rows = [(*row, crew) for row in rows for crew in crews]
            for row in rows:
                self.assertIs(accepts(("fits", str(lot)), row), accepted_by_words(("fits", str(lot)), row))

    def test_rounds_that_are_too_long(self):
        for lot in TOO_LONG:
            self.assertIs(accepts(("fits", str(lot)), even_spread(lot)), False)
            self.assertIs(accepts(("over", str(lot)), ()), False)
            for rule in RULES:
                self.assertIs(accepts(("rule", str(lot), rule), ()), False)
            self.assertIs(accepts(("plan", str(lot), (6,)), ((),)), False)
            self.assertIs(accepts(("no plan", str(lot.put("z", (1, 1))), (0,)), (((0,) * (len(lot.shares) + 1),), ())), False)
            lost = play_by_words(lot.with_hands(1), "keen", 100)[1]
            if lost is not None:
                self.assertIs(accepts(("misses", str(lot.with_hands(1)), "keen", (), *lost), ()), False)
        # With a round of just 720 they are claims.
        lot = lot_of(1, (15, 16), (8, 9), (4, 5))
        self.assertIs(accepts(("over", str(lot)), ()), True)
        self.assertIs(accepts(("misses", str(lot), "keen", (), *play_by_words(lot, "keen", 100)[1]), ()), True)


class RulesTest(unittest.TestCase):
    def test_without_lates(self):
        for lot in (*SMALL_LOTS, *random_lots(30, 94)):
            for rule in RULES:
                lost = play_by_words(lot, rule, lot.span)[1]
                self.assertIs(accepts(("rule", str(lot), rule), ()), lost is None)
                triples = [lost] if lost else [(moment, name, turn) for moment in (1, 2, lot.span) for name in lot.names for turn in (1, 2)]
                for moment, name, turn in triples:
                    claim = ("misses", str(lot), rule, (), moment, name, turn)
                    self.assertIs(accepts(claim, ()), lost is not None)

    def test_never_both(self):
        """A rule that misses nothing misses no turn at all, at whatever moment of two rounds."""
        for lot in (Lot(EVEN), Lot(CROWD), lot_of(2, (2, 3), (1, 2), (5, 6))):
            for rule in RULES:
                keeps = accepts(("rule", str(lot), rule), ())
                misses = [accepts(("misses", str(lot), rule, (), moment, name, turn), ()) for moment in range(2 * lot.span + 2)
                          for name in lot.names for turn in range(1, 12)]
                self.assertEqual(sum(misses), 0 if keeps else 1)

    def test_with_lates(self):
        chance = random.Random(95)
        many = 0
        for lot in (*MORE, *JUST, *random_lots(60, 96)):
            for rule in RULES:
                lates = sorted({(name, chance.randint(1, 6)): chance.randint(1, 3) for name in lot.names * 2}.items())
                lates = tuple([(name, turn, by) for (name, turn), by in lates])
                lost = play_by_words(lot, rule, 80, lates)[1]
                if lost is None:
                    continue
                many += 1
                moment, name, turn = lost
                for other in (lost, (moment + 1, name, turn), (moment - 1, name, turn), (moment, name, turn + 1), (moment, name, turn - 1),
                              *[(moment, title, turn) for title in lot.names if title != name]):
                    self.assertIs(accepts(("misses", str(lot), rule, lates, *other), ()), other == lost)
        self.assertGreater(many, 50)

    def test_moments_up_to_2000(self):
        for late in (1993, 1994, 1995, 5000):
            lates = (("a", 1, late), ("b", 1, late))
            moment = 6 + late
            self.assertEqual(play_by_words(Lot(CROWD), "nearest", moment, lates)[1], (moment, "b", 4))
            self.assertIs(accepts(("misses", CROWD, "nearest", lates, moment, "b", 4), ()), moment <= 2000)

    def test_lates_that_are_none(self):
        for lates in ((("b", 1, 1), ("a", 1, 1)), (("a", 2, 1), ("a", 1, 1)), (("a", 1, 1), ("a", 1, 1)), (("a", 1, 1), ("a", 1, 2)),
                      (("c", 9, 1),), (("a", 0, 1),), (("a", 9, 0),), (("a", 10 ** 6 + 1, 1),), (("a", 9, 10 ** 6 + 1),), [("a", 9, 1)],
                      (["a", 9, 1],), (("a", 9),), ((),), None, (("a", True, 1),), (("a", 9, True),), (("a", "9", 1),)):
            for moment in range(10):
                for name in "ab":
                    for turn in range(1, 6):
                        self.assertIs(accepts(("misses", CROWD, "nearest", lates, moment, name, turn), ()), False)
        self.assertIs(accepts(("misses", CROWD, "nearest", (("a", 9, 1), ("a", 10 ** 6, 10 ** 6)), 6, "b", 4), ()), True)
        many = tuple([("a", turn, 1) for turn in range(9, 210)])
        self.assertIs(accepts(("misses", CROWD, "nearest", many[:200], 6, "b", 4), ()), True)
        self.assertIs(accepts(("misses", CROWD, "nearest", many, 6, "b", 4), ()), False)


class PlansTest(unittest.TestCase):
    def test_never_both(self):
        chance = random.Random(97)
        for lot in (*SMALL_LOTS, *random_lots(40, 98)):
            for _ in range(4):
                counts = tuple(chance.choices(range(chance.randint(1, 5)), k=chance.randint(1, 9)))
                layers = layers_of(lot, counts)
                there = longest_by_words(lot, counts) == len(counts)
                self.assertIs(accepts(("no plan", str(lot), counts), layers), not there)
                self.assertIs(accepts(("plan", str(lot), counts), plan(lot, counts)), there)
                if there:
                    # Whatever is left out or added, it never shows what is not true.
                    for other in (*[layers[:many] + ((),) for many in range(len(layers))], (*layers, ())):
                        self.assertIs(accepts(("no plan", str(lot), counts), other), False)

    def test_layers_with_more_and_with_less(self):
        """More standings than can be come to do no harm if what comes of them is there too; none may be missing."""
        chance = random.Random(99)
        both = {True: 0, False: 0}
        for lot in (Lot(EVEN), Lot(CROWD), lot_of(2, (2, 3), (1, 2), (5, 6)), lot_of(1, (1, 4), (1, 3), (1, 2)), *MORE[:4]):
            for _ in range(60):
                counts = tuple(chance.choices((0, 1, 1, 2), k=chance.randint(1, 6)))
                layers = list(layers_of(lot, counts))
                for moment in range(1, len(layers)):
                    for standing in standings_by_words(lot, moment):
                        if chance.random() < 0.1:
                            layers[moment] = tuple(sorted(set(layers[moment]) ^ {standing}))
                told = accepts(("no plan", str(lot), counts), tuple(layers))
                self.assertIs(told, accepted_by_words(("no plan", str(lot), counts), tuple(layers)))
                both[told] += 1
        self.assertGreater(min(both.values()), 20)

    def test_all_layers_of_a_small_lot(self):
        """For one work and few ticks all that can be written down as layers, right or not."""
        text = "hands 1\nwork w 1/2"
        parts = [(), ((0,),), ((1,),), ((0,), (1,)), ((1,), (0,)), ((2,),), ((1,), (2,)), ((0,), (1,), (2,))]
        for counts in ((0, 0), (0, 0, 1), (1, 0, 0), (0, 1, 0), (1, 1), (0, 0, 0)):
            rows = [((0,),)]
            told = 0
            layers = [rows]
            for _ in counts:
                layers = [[*row, part] for row in layers for part in parts]
                for row in layers:
                    value = tuple(row)
                    self.assertIs(accepts(("no plan", text, counts), value), accepted_by_words(("no plan", text, counts), value))
                    told += accepts(("no plan", text, counts), value)
            self.assertIs(told > 0, plan(Lot(text), counts) is None)

    def test_layers_behind_an_empty_one(self):
        text = "hands 1\nwork w 1/1"
        for layers, wanted in (((((0,),), ()), True), ((((0,),), (), ()), True), ((((0,),), (), (), ()), True),
                               ((((0,),), (), ((2,),), ()), False), ((((0,),), (), (), (), ()), False), ((((0,),), ((1,),), ()), False)):
            self.assertIs(accepts(("no plan", text, (0, 1, 1)), layers), wanted)
            self.assertIs(accepted_by_words(("no plan", text, (0, 1, 1)), layers), wanted)
        # Behind an empty layer there may be standings if they lead to none in turn.
        self.assertIs(accepts(("no plan", text, (0, 1, 0)), (((0,),), (), ((2,),), ())), True)

    def test_counts_that_are_none(self):
        for counts in ((), None, (7,), (-1,), (True,), (0, "1"), [0], (0,) * 61, ((0,),)):
            self.assertIs(accepts(("no plan", "hands 1\nwork w 1/1", counts), (((0,),), ())), False)
        self.assertIs(accepts(("no plan", "hands 1\nwork w 1/1", (0,) * 60), (((0,),), ())), True)
        self.assertIs(accepts(("plan", "hands 1\nwork w 1/1", (6,) * 60), ((0,),) * 60), True)
        self.assertIs(accepts(("plan", "hands 1\nwork w 1/1", (6,) * 61), ((0,),) * 61), False)


class SharesTest(unittest.TestCase):
    def test_small_logs(self):
        for log in (*all_logs(3), *all_logs(6)[::3]):
            for top in range(-1, 9):
                for bottom in range(-1, 9):
                    self.assertIs(accepts(("share", log, top, bottom), ()), accepted_by_words(("share", log, top, bottom), ()))

    def test_long_logs(self):
        chance = random.Random(100)
        for share in chance.sample(ALL_SHARES, 60):
            log = log_of(share, 200, chance)
            self.assertIs(accepts(("share", log, share.numerator, share.denominator), ()), True)
            self.assertIs(accepts(("share", (*log, 0), share.numerator, share.denominator), ()), False)
            for other in chance.sample(ALL_SHARES, 20):
                told = accepts(("share", log, other.numerator, other.denominator), ())
                self.assertIs(told, fits_by_words(log, other))

    def test_not_in_lowest_terms(self):
        for times in (1, 2, 3, 10 ** 50):
            self.assertIs(accepts(("share", (1, 0, 1), times, 2 * times), ()), times == 1)
            self.assertIs(accepts(("share", (1, 1, 1), times, times), ()), times == 1)

    def test_any_fraction(self):
        far = 10 ** 59
        self.assertIs(accepts(("share", (0,) * 200, 1, far), ()), True)
        self.assertIs(accepts(("share", (1,) * 200, far - 1, far), ()), True)
        self.assertIs(accepts(("share", (1,) * 200, far + 1, far), ()), False)
        for top, bottom in combinations([share[1] for share in SHARES[::9]], 2):
            self.assertIs(accepts(("share", (0, 1), top, bottom), ()), accepted_by_words(("share", (0, 1), top, bottom), ()))
