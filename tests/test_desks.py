import random
import unittest
from fractions import Fraction
from functools import cache

from tests.lots_to_try import JUST, MORE, TOO_LONG
from tests.slow import lot_of, play_by_words, starts_of, tables_by_words
from tests.support import NO_LOTS, ODD_VALUES, THREE, Agreeable, ErrorCase
from tests.test_rules import NO_RULES
from tickshares.desks import Desk
from tickshares.errors import (
    Broken, InUse, InvalidIndex, InvalidName, InvalidPromise, NoAnswer, NotALot, NothingToUndo, TooMany, UnknownName,
    WrongName, WrongValue,
)
from tickshares.lots import Lot
from tickshares.rules import RULES

EVEN = lot_of(1, (1, 2), (1, 2))
CROWD = lot_of(1, (1, 2), (2, 3))
SINGLE = lot_of(1, (2, 3))

NO_NAMES = (*ODD_VALUES, "", "Ann", "ann ", "annannann", "a1", "a\n", " ", 0, 1, ("ann",), b"ann")

# What has none of the forms of a promise.
NO_PROMISES = (
    *ODD_VALUES, 0, 1, "", "fits", "fits x", ("fits",), ("fits", "x", 1), ("fits", "x", "keen"), ["fits", "x"], ("Fits", "x"),
    ("fits", "X"), ("fits", ""), ("fits", "xxxxxxxxx"), ("fits", 1), ("fits", None), ("fits", ["x"]), ("fits", Agreeable()),
    (Agreeable(), "x"), (b"fits", "x"), (None, "x"), (("fits",), "x"), ("fits ", "x"), ("holds", "x"), ("", "x"), ("holds", "x", 1), ("", "x", 1), ("total", "x", 1), ("x", "fits"),
    ("rule", "x"), ("rule", "x", "keen", 1), ["rule", "x", "keen"], ("rule", "X", "keen"), ("rule", 1, "keen"),
    *[("rule", "x", rule) for rule in NO_RULES], ("tables", "x"), ("tables", "x", 1, 1), ("starts", "x"), ("starts", "x", 1, 1),
    *[(word, "x", number) for word in ("tables", "starts") for number in (*ODD_VALUES, -1, 10 ** 60 + 1, "1", (1,), [1], "keen")],
    ("tables", "X", 1), ("starts", 1, 1), [("fits", "x")], (("fits", "x"),),
)


class Fault(Exception):
    """What the rows of a trial raise here."""


def desk_of(**lots):
    """A desk with these lots."""
    desk = Desk()
    for name, lot in lots.items():
        desk[name] = lot
    return desk


def state(desk):
    """All that a desk tells."""
    return desk.titles, tuple([desk[name] for name in desk.titles]), desk.promises, desk.changes, len(desk)


@cache
def tables_of(text):
    return tables_by_words(Lot(text))


@cache
def told_by_words(text, word, what):
    """Whether a promise is true, and what is shown if it is not, by the words of the document."""
    lot = Lot(text)
    if word == "fits":
        total = sum([Fraction(*share) for share in lot.shares])
        return total <= lot.hands, (total.numerator, total.denominator)
    if word == "rule":
        lost = play_by_words(lot, what, lot.span)[1]
        return lost is None, lost
    tables = tables_of(text)
    if word == "tables":
        return len(tables) >= what, len(tables)
    fewest = min([starts_of(ticks) for ticks in tables], default=None)
    return fewest is not None and fewest <= what, fewest


def asked(promise, lot):
    """Whether the promise is true for the lot, and what is shown."""
    word, _, *rest = promise
    return told_by_words(lot.text, word, *(rest or [None]))


class Model:
    """A desk by the words of the document, with a copy of all for each change."""

    def __init__(self):
        self.past = []
        self.lots, self.promises = {}, []

    def change(self, lots, promises):
        self.past.append((self.lots, self.promises))
        self.lots, self.promises = lots, promises

    def put(self, name, lot):
        for index, promise in enumerate(self.promises):
            if promise[1] == name and not asked(promise, lot)[0]:
                return Broken, {"index": index, "shown": asked(promise, lot)[1]}
        return self.change({**self.lots, name: lot}, self.promises)

    def remove(self, name):
        if name not in self.lots:
            return UnknownName, {"given": name}
        for index, promise in enumerate(self.promises):
            if promise[1] == name:
                return InUse, {"index": index}
        return self.change({other: lot for other, lot in self.lots.items() if other != name}, self.promises)

    def promise(self, promise):
        if promise[1] not in self.lots:
            return UnknownName, {"given": promise[1]}
        holds, shown = asked(promise, self.lots[promise[1]])
        if not holds:
            return Broken, {"index": len(self.promises), "shown": shown}
        return self.change(self.lots, [*self.promises, promise])

    def lift(self, index):
        if index not in range(len(self.promises)):
            return InvalidIndex, {"given": index}
        return self.change(self.lots, self.promises[:index] + self.promises[index + 1:])

    def undo(self):
        if not self.past:
            return NothingToUndo, {}
        self.lots, self.promises = self.past.pop()
        return None


class ModelTest(ErrorCase):
    LOTS = (EVEN, EVEN.with_hands(2), CROWD, CROWD.with_hands(2), SINGLE, JUST[0], JUST[3], JUST[4], MORE[2], MORE[0],
            lot_of(2, (1, 2), (2, 3), (1, 2)), lot_of(1, (1, 3)), lot_of(1, (1, 4), (1, 2)))

    def fails_with(self, wanted, attributes, action, *args):
        """The call raises this very class, with equal attributes."""
        with self.assertRaises(wanted) as caught:
            action(*args)
        self.assertEqual((caught.exception.__class__, vars(caught.exception)), (wanted, attributes))

    def step(self, desk, model, chance):
        """One drawn change of both."""
        name = chance.choice("xyz")
        kind = chance.choice(("put", "put", "put", "remove", "promise", "promise", "promise", "lift", "undo"))
        if kind == "put":
            lot = chance.choice(self.LOTS)
            return model.put(name, lot), desk.__setitem__, (name, lot)
        if kind == "remove":
            return model.remove(name), desk.remove, (name,)
        if kind == "promise":
            promise = chance.choice((
                ("fits", name), ("rule", name, chance.choice(RULES)), ("tables", name, chance.choice((0, 1, 2, 3, 4, 5, 30))),
                ("starts", name, chance.choice((0, 1, 2, 3, 4, 5, 30))),
            ))
            return model.promise(promise), desk.promise, (promise,)
        if kind == "lift":
            index = chance.randint(-1, 4)
            return model.lift(index), desk.lift, (index,)
        return model.undo(), desk.undo, ()

    def hold(self, desk, model):
        """Both tell the same, and all promises are true."""
        self.assertEqual(desk.titles, tuple(sorted(model.lots)))
        self.assertEqual({name: desk[name].text for name in desk.titles}, {name: lot.text for name, lot in model.lots.items()})
        self.assertEqual(desk.promises, tuple(model.promises))
        self.assertEqual((desk.changes, len(desk)), (len(model.past), len(model.lots)))
        for promise in desk.promises:
            self.assertIs(asked(promise, desk[promise[1]])[0], True)
        for name in "xyzw":
            self.assertIs(name in desk, name in model.lots)

    def test_drawn_changes(self):
        chance = random.Random(71)
        refused = set()
        for _ in range(25):
            desk, model = Desk(), Model()
            for _ in range(60):
                wanted, action, args = self.step(desk, model, chance)
                if wanted is None:
                    self.assertIsNone(action(*args))
                else:
                    self.fails_with(*wanted, action, *args)
                    refused.add(wanted[0])
                self.hold(desk, model)
            while model.past:
                model.undo()
                desk.undo()
                self.hold(desk, model)
        self.assertEqual(refused, {Broken, InUse, UnknownName, InvalidIndex, NothingToUndo})

    def test_drawn_changes_within_trials(self):
        chance = random.Random(72)
        for _ in range(25):
            desk, model = Desk(), Model()
            self.within(desk, model, chance, 3)

    def within(self, desk, model, chance, deep):
        """Drawn changes, with trials among them that end well or by an exception, and trials within these."""
        for _ in range(12):
            if deep > 0 and chance.random() < 0.2:
                past, lots, promises = list(model.past), model.lots, model.promises
                if chance.random() < 0.5:
                    with desk.trial():
                        self.within(desk, model, chance, deep - 1)
                else:
                    with self.assertRaises(Fault):
                        with desk.trial():
                            self.within(desk, model, chance, deep - 1)
                            raise Fault
                    model.past, model.lots, model.promises = past, lots, promises
            else:
                wanted, action, args = self.step(desk, model, chance)
                if wanted is None:
                    action(*args)
                else:
                    self.fails_with(*wanted, action, *args)
            self.hold(desk, model)


class PutTest(ErrorCase):
    def put(self, desk, name, lot):
        desk[name] = lot

    def refused(self, desk, wanted, attributes, name, lot):
        before = state(desk)
        self.fails(wanted, attributes, self.put, desk, name, lot)
        self.assertEqual(state(desk), before)

    def test_at_first(self):
        self.assertEqual(state(Desk()), ((), (), (), 0, 0))

    def test_puts(self):
        desk = Desk()
        three = Lot(THREE)
        desk["x"] = three
        self.assertEqual(state(desk), (("x",), (three,), (), 1, 1))
        self.assertIs(desk["x"], three)
        desk["abcdefgh"] = EVEN
        self.assertEqual(state(desk), (("abcdefgh", "x"), (EVEN, three), (), 2, 2))

    def test_in_the_place_of_another_one(self):
        desk = desk_of(x=EVEN, y=CROWD)
        desk["x"] = SINGLE
        self.assertEqual(state(desk), (("x", "y"), (SINGLE, CROWD), (), 3, 2))

    def test_an_equal_one_counts(self):
        desk = desk_of(x=EVEN)
        desk["x"] = EVEN
        desk["x"] = Lot(EVEN.text)
        self.assertEqual((desk.changes, len(desk)), (3, 1))
        desk.undo()
        desk.undo()
        self.assertEqual(state(desk), (("x",), (EVEN,), (), 1, 1))

    def test_no_names(self):
        desk = desk_of(ann=EVEN)
        for value in NO_NAMES:
            for lot in (EVEN, None):
                self.refused(desk, InvalidName, {"given": value}, value, lot)

    def test_no_lots(self):
        desk = desk_of(x=EVEN)
        desk.promise(("fits", "x"))
        for name in ("x", "y"):
            for value in NO_LOTS:
                self.refused(desk, NotALot, {"given": value}, name, value)

    def broken(self, desk, index, shown, name, lot):
        """Putting this lot breaks the promise with this index."""
        before = state(desk)
        with self.assertRaises(Broken) as caught:
            desk[name] = lot
        self.assertEqual(vars(caught.exception), {"index": index, "shown": shown})
        self.assertEqual(state(desk), before)

    def test_broken(self):
        desk = desk_of(x=EVEN, y=CROWD)
        for promise in (("starts", "x", 2), ("tables", "x", 2), ("rule", "x", "nearest"), ("fits", "x")):
            desk.promise(promise)
            shown = {"fits": (7, 6), "rule": (6, "b", 4), "tables": 0, "starts": None}
            self.broken(desk, 0, shown[promise[0]], "x", CROWD)
            desk.lift(0)
        # Two right tables with two starts each are not enough for these, and one of three works has three starts.
        desk.promise(("tables", "x", 2))
        self.broken(desk, 0, 1, "x", lot_of(1, (1, 1)))
        desk.promise(("starts", "x", 2))
        self.broken(desk, 1, 3, "x", lot_of(1, (1, 2), (1, 4), (1, 4)))

    def test_the_first_of_several(self):
        desk = desk_of(x=EVEN, y=EVEN)
        for promise in (("fits", "y"), ("tables", "x", 1), ("fits", "x"), ("rule", "x", "keen"), ("fits", "y")):
            desk.promise(promise)
        self.broken(desk, 1, 0, "x", CROWD)
        self.broken(desk, 0, (7, 6), "y", CROWD)
        desk.lift(1)
        self.broken(desk, 1, (7, 6), "x", CROWD)
        desk.lift(1)
        self.broken(desk, 1, (6, "b", 4), "x", CROWD)

    def test_promises_of_other_lots_are_not_asked(self):
        desk = desk_of(x=EVEN, y=EVEN)
        desk.promise(("fits", "x"))
        desk["y"] = CROWD
        desk["z"] = CROWD
        self.assertEqual((desk["y"], desk.changes), (CROWD, 5))

    def test_too_long_a_round(self):
        for promise in (("rule", "x", "keen"), ("tables", "x", 0), ("starts", "x", 10 ** 60)):
            desk = desk_of(x=EVEN)
            desk.promise(("fits", "x"))
            desk.promise(promise)
            for lot in TOO_LONG:
                if lot.total[0] <= lot.hands * lot.total[1]:
                    self.refused(desk, TooMany, {"limit": 720}, "x", lot)
                else:
                    # The first promise asks for the sum alone, and is broken ahead of the other one.
                    self.broken(desk, 0, lot.total, "x", lot)
            desk.lift(0)
            for lot in TOO_LONG:
                self.refused(desk, TooMany, {"limit": 720}, "x", lot)

    def test_the_sum_may_be_of_any_round(self):
        desk = desk_of(x=EVEN)
        desk.promise(("fits", "x"))
        lot = lot_of(3, (1, 16), (1, 9), (1, 7))
        desk["x"] = lot
        self.assertIs(desk["x"], lot)


class AskTest(ErrorCase):
    def test_unknown_names(self):
        desk = desk_of(ann=EVEN)
        for value in (*NO_NAMES, "x", "bob", "an", "anna"):
            before = state(desk)
            self.fails(UnknownName, {"given": value}, lambda: desk[value])
            self.fails(UnknownName, {"given": value}, desk.remove, value)
            self.assertEqual(state(desk), before)
            self.fails(UnknownName, {"given": value}, lambda: Desk()[value])
            self.fails(UnknownName, {"given": value}, Desk().remove, value)

    def test_remove(self):
        desk = desk_of(x=EVEN, y=CROWD, z=SINGLE)
        self.assertIsNone(desk.remove("y"))
        self.assertEqual(state(desk), (("x", "z"), (EVEN, SINGLE), (), 4, 2))
        self.fails(UnknownName, {"given": "y"}, desk.remove, "y")
        self.assertIsNone(desk.remove(name="x"))
        self.assertEqual(desk.titles, ("z",))

    def test_in_use(self):
        desk = desk_of(x=EVEN, y=EVEN)
        desk.promise(("fits", "y"))
        desk.promise(("tables", "x", 1))
        desk.promise(("fits", "x"))
        before = state(desk)
        self.fails(InUse, {"index": 1}, desk.remove, "x")
        self.fails(InUse, {"index": 0}, desk.remove, "y")
        self.assertEqual(state(desk), before)
        desk.lift(1)
        self.fails(InUse, {"index": 1}, desk.remove, "x")
        desk.lift(1)
        desk.remove("x")
        self.assertEqual(desk.titles, ("y",))

    def test_whether_a_name_is_there(self):
        desk = desk_of(x=EVEN, ann=CROWD)
        for value in (*NO_NAMES, "y", "xann", EVEN):
            self.assertIs(value in desk, False, repr(value))
            self.assertIs(value not in desk, True)
        self.assertIs("x" in desk, True)
        desk.remove("x")
        self.assertIs("x" in desk, False)
        self.assertIs("ann" in desk, True)

    def test_titles_ascend(self):
        desk = Desk()
        for name in ("m", "z", "a", "zz", "aa", "b"):
            desk[name] = EVEN
        self.assertEqual(desk.titles, ("a", "aa", "b", "m", "z", "zz"))


class PromiseTest(ErrorCase):
    def refused(self, desk, wanted, attributes, promise):
        before = state(desk)
        with self.assertRaises(wanted) as caught:
            desk.promise(promise)
        self.assertEqual((caught.exception.__class__, vars(caught.exception)), (wanted, attributes))
        self.assertEqual(state(desk), before)

    def test_the_four_forms(self):
        desk = desk_of(x=EVEN)
        told = (("fits", "x"), ("rule", "x", "behind"), ("tables", "x", 2), ("starts", "x", 2), ("tables", "x", 0), ("starts", "x", 10 ** 60))
        for at, promise in enumerate(told):
            self.assertIsNone(desk.promise(promise))
            self.assertEqual((desk.promises, desk.changes), (told[:at + 1], at + 2))
            self.assertIs(desk.promises[at], promise)
        desk.promise(promise=("fits", "x"))
        self.assertEqual(desk.promises[-1], ("fits", "x"))

    def test_the_same_promise_again(self):
        desk = desk_of(x=EVEN)
        desk.promise(("fits", "x"))
        desk.promise(("fits", "x"))
        self.assertEqual((desk.promises, desk.changes), ((("fits", "x"),) * 2, 3))

    def test_broken(self):
        desk = desk_of(x=CROWD, y=EVEN)
        for promise, shown in ((("fits", "x"), (7, 6)), (("rule", "x", "nearest"), (6, "b", 4)), (("tables", "x", 1), 0),
                               (("starts", "x", 10 ** 60), None), (("tables", "y", 3), 2), (("tables", "y", 10 ** 60), 2),
                               (("starts", "y", 1), 2), (("starts", "y", 0), 2)):
            self.refused(desk, Broken, {"index": len(desk.promises), "shown": shown}, promise)
        desk.promise(("tables", "x", 0))
        self.refused(desk, Broken, {"index": 1, "shown": (7, 6)}, ("fits", "x"))

    def test_no_promises(self):
        for desk in (Desk(), desk_of(x=EVEN)):
            for value in NO_PROMISES:
                before = state(desk)
                self.fails(InvalidPromise, {"given": value}, desk.promise, value)
                self.assertEqual(state(desk), before)

    def test_unknown_names(self):
        desk = desk_of(x=EVEN)
        for promise in (("fits", "y"), ("rule", "xx", "keen"), ("tables", "ann", 0), ("starts", "abcdefgh", 10 ** 60)):
            self.fails(UnknownName, {"given": promise[1]}, desk.promise, promise)
            self.fails(UnknownName, {"given": promise[1]}, Desk().promise, promise)

    def test_too_long_a_round(self):
        desk = desk_of(x=TOO_LONG[0], y=TOO_LONG[1])
        desk.promise(("fits", "x"))
        for name in ("x", "y"):
            for promise in (("rule", name, "keen"), ("tables", name, 0), ("starts", name, 10 ** 60)):
                self.refused(desk, TooMany, {"limit": 720}, promise)
        self.refused(desk, Broken, {"index": 1, "shown": TOO_LONG[1].total}, ("fits", "y"))

    def test_lift(self):
        desk = desk_of(x=EVEN)
        for number in range(4):
            desk.promise(("tables", "x", number % 3))
        self.assertIsNone(desk.lift(1))
        self.assertEqual((desk.promises, desk.changes), ((("tables", "x", 0), ("tables", "x", 2), ("tables", "x", 0)), 6))
        desk.lift(index=2)
        desk.lift(0)
        self.assertEqual((desk.promises, desk.changes), ((("tables", "x", 2),), 8))

    def test_no_index(self):
        desk = desk_of(x=EVEN)
        for many in range(3):
            for value in (*ODD_VALUES, -1, many, many + 1, 10 ** 60, -many, "0", "", (0,)):
                if type(value) is not int or not 0 <= value < many:
                    before = state(desk)
                    self.fails(InvalidIndex, {"given": value}, desk.lift, value)
                    self.assertEqual(state(desk), before)
            desk.promise(("fits", "x"))
        self.fails(InvalidIndex, {"given": 0}, Desk().lift, 0)


class UndoTest(ErrorCase):
    def test_all_kinds_of_changes(self):
        desk = Desk()
        states = [state(desk)]
        for change in (lambda: desk.__setitem__("x", EVEN), lambda: desk.promise(("fits", "x")), lambda: desk.__setitem__("x", SINGLE),
                       lambda: desk.__setitem__("y", CROWD), lambda: desk.promise(("tables", "x", 3)), lambda: desk.remove("y"),
                       lambda: desk.lift(0), lambda: desk.lift(0), lambda: desk.remove("x"), lambda: desk.__setitem__("x", EVEN)):
            change()
            states.append(state(desk))
        while len(states) > 1:
            states.pop()
            self.assertIsNone(desk.undo())
            self.assertEqual(state(desk), states[-1])
        self.fails(NothingToUndo, {}, desk.undo)
        self.assertEqual(state(desk), states[0])

    def test_other_changes_between(self):
        desk = desk_of(x=EVEN)
        desk.promise(("tables", "x", 2))
        desk.undo()
        desk["x"] = CROWD
        desk.undo()
        desk.promise(("fits", "x"))
        desk.undo()
        self.assertEqual(state(desk), (("x",), (EVEN,), (), 1, 1))
        desk.undo()
        self.fails(NothingToUndo, {}, desk.undo)

    def test_a_promise_that_is_taken_back_does_not_hold(self):
        desk = desk_of(x=EVEN)
        desk.promise(("fits", "x"))
        desk.undo()
        desk["x"] = CROWD
        desk.remove("x")
        self.assertEqual(desk.titles, ())

    def test_a_lifted_promise_holds_again(self):
        desk = desk_of(x=EVEN)
        desk.promise(("fits", "x"))
        desk.lift(0)
        desk.undo()
        self.fails(InUse, {"index": 0}, desk.remove, "x")

    def test_what_is_refused_is_no_change(self):
        desk = desk_of(x=EVEN)
        desk.promise(("fits", "x"))
        for action in (lambda: desk.__setitem__("x", CROWD), lambda: desk.remove("x"), lambda: desk.lift(1), lambda: desk.promise(())):
            self.assertRaises((NoAnswer, WrongName, WrongValue), action)
        self.assertEqual(desk.changes, 2)
        desk.undo()
        self.assertEqual(state(desk), (("x",), (EVEN,), (), 1, 1))


class TrialTest(ErrorCase):
    def test_a_call_alone_changes_nothing(self):
        desk = desk_of(x=EVEN)
        trial = desk.trial()
        self.assertEqual(state(desk), (("x",), (EVEN,), (), 1, 1))
        desk["y"] = CROWD
        with self.assertRaises(Fault):
            with trial:
                desk.remove("y")
                raise Fault
        self.assertEqual(state(desk), (("x", "y"), (EVEN, CROWD), (), 2, 2))

    def test_rows_that_end_well(self):
        desk = desk_of(x=EVEN)
        with desk.trial() as held:
            self.assertIs(held, desk)
            held["y"] = CROWD
            desk.promise(("fits", "x"))
        self.assertEqual(state(desk), (("x", "y"), (EVEN, CROWD), (("fits", "x"),), 3, 2))
        desk.undo()
        self.assertEqual(desk.changes, 2)

    def test_rows_that_are_left(self):
        desk = desk_of(x=EVEN)

        def leave():
            with desk.trial():
                desk["y"] = CROWD
                return 5

        self.assertEqual((leave(), desk.titles), (5, ("x", "y")))
        for name in ("a", "b", "c"):
            with desk.trial():
                desk[name] = CROWD
                if name == "a":
                    continue
                break
        self.assertEqual(desk.titles, ("a", "b", "x", "y"))

    def test_rows_that_raise(self):
        desk = desk_of(x=EVEN)
        desk.promise(("fits", "x"))
        before = state(desk)
        fault = Fault("here")
        with self.assertRaises(Fault) as caught:
            with desk.trial():
                desk["y"] = CROWD
                desk.lift(0)
                desk.remove("x")
                raise fault
        self.assertIs(caught.exception, fault)
        self.assertEqual(state(desk), before)
        with self.assertRaises(Broken):
            with desk.trial():
                desk["y"] = CROWD
                desk["x"] = CROWD
        self.assertEqual(state(desk), before)
        with self.assertRaises(KeyboardInterrupt):
            with desk.trial():
                desk.undo()
                desk.undo()
                raise KeyboardInterrupt
        self.assertEqual(state(desk), before)
        desk.undo()
        desk.undo()
        self.fails(NothingToUndo, {}, desk.undo)

    def test_an_error_that_is_caught_within_the_rows(self):
        desk = desk_of(x=EVEN)
        with desk.trial():
            desk["y"] = CROWD
            self.fails(InvalidIndex, {"given": 5}, desk.lift, 5)
        self.assertEqual(desk.titles, ("x", "y"))

    def test_trials_within_trials(self):
        desk = desk_of(x=EVEN)
        before = state(desk)
        with self.assertRaises(Fault):
            with desk.trial():
                with desk.trial() as inner:
                    inner["y"] = CROWD
                self.assertEqual(desk.titles, ("x", "y"))
                with desk.trial():
                    desk.undo()
                    desk.undo()
                    desk["z"] = CROWD
                raise Fault
        self.assertEqual(state(desk), before)
        with desk.trial():
            desk["y"] = SINGLE
            with self.assertRaises(Fault):
                with desk.trial():
                    desk["z"] = SINGLE
                    raise Fault
            self.assertEqual(desk.titles, ("x", "y"))
        self.assertEqual((desk.titles, desk.changes), (("x", "y"), 2))

    def test_one_trial_several_times(self):
        desk = desk_of(x=EVEN)
        trial = desk.trial()
        with self.assertRaises(Fault):
            with trial:
                desk["y"] = EVEN
                with trial:
                    desk["z"] = EVEN
                with self.assertRaises(KeyError):
                    with trial:
                        desk["w"] = EVEN
                        raise KeyError
                self.assertEqual(desk.titles, ("x", "y", "z"))
                raise Fault
        self.assertEqual(state(desk), (("x",), (EVEN,), (), 1, 1))
        with trial:
            desk["y"] = EVEN
        self.assertEqual(desk.titles, ("x", "y"))

    def test_tried(self):
        desk = desk_of(x=EVEN)
        told = [1]

        def action(held):
            self.assertIs(held, desk)
            held["y"] = CROWD
            return told

        self.assertIs(desk.tried(action), told)
        self.assertEqual(desk.titles, ("x", "y"))
        self.assertIsNone(desk.tried(action=lambda held: held.tried(lambda inner: inner.remove("y"))))
        self.assertEqual((desk.titles, desk.changes), (("x",), 3))

    def test_tried_that_raises(self):
        desk = desk_of(x=EVEN)
        fault = Fault("here")

        def action(held):
            held.tried(lambda inner: inner.__setitem__("y", EVEN))
            raise fault

        with self.assertRaises(Fault) as caught:
            desk.tried(action)
        self.assertIs(caught.exception, fault)
        self.assertEqual(state(desk), (("x",), (EVEN,), (), 1, 1))


class ObjectsTest(unittest.TestCase):
    def test_several_side_by_side(self):
        one, other = Desk(), Desk()
        one["x"] = EVEN
        other["y"] = CROWD
        with one.trial():
            other["z"] = EVEN
            one.promise(("fits", "x"))
        self.assertEqual(state(one), (("x",), (EVEN,), (("fits", "x"),), 2, 1))
        self.assertEqual(state(other), (("y", "z"), (CROWD, EVEN), (), 2, 2))
        one.undo()
        self.assertEqual(state(other), (("y", "z"), (CROWD, EVEN), (), 2, 2))

    def test_true(self):
        desk = Desk()
        self.assertIs(bool(desk), True)
        desk["x"] = EVEN
        self.assertIs(bool(desk), True)
        self.assertEqual((len(desk), len(Desk())), (1, 0))

    def test_equals_itself_alone(self):
        desk = Desk()
        self.assertIs(desk == desk, True)
        self.assertIs(desk != desk, False)
        for other in (Desk(), *ODD_VALUES, 0, "", desk.trial(), desk.titles, {}):
            self.assertIs(desk == other, False, repr(other))
            self.assertIs(desk != other, True, repr(other))
        desk["x"] = EVEN
        self.assertIs(desk == desk, True)

    def test_what_was_handed_out_stays(self):
        desk = desk_of(x=EVEN)
        desk.promise(("fits", "x"))
        titles, promises, lot = desk.titles, desk.promises, desk["x"]
        desk["a"] = CROWD
        desk["x"] = SINGLE
        desk.lift(0)
        self.assertEqual((titles, promises, lot.text), (("x",), (("fits", "x"),), EVEN.text))

    def test_kinds(self):
        desk = desk_of(x=EVEN)
        self.assertEqual([type(value) for value in (desk.titles, desk.promises, desk.changes, len(desk))], [tuple, tuple, int, int])
