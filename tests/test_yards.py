import random
import unittest
from itertools import permutations

from tests.lots_to_try import JUST, LESS, LONG, MORE, TOO_LONG, random_lots
from tests.slow import alive_by_words, choices_by_words, crews_up_to, lot_of, with_crew, with_whole
from tests.support import NO_LOTS, ODD_VALUES, THREE, Agreeable, ErrorCase
from tickshares.errors import Dead, InvalidNames, NotALot, NothingToUndo, TooMany
from tickshares.lots import Lot, fits
from tickshares.yards import Yard

EVEN = "hands 1\nwork a 1/2\nwork b 1/2"


class Fault(Exception):
    """What the rows of a trial raise here."""


def state(yard):
    """All that a yard tells."""
    return yard.moment, yard.standing, yard.changes


def names_of(lot, crew):
    """The names of the works with these indexes."""
    return tuple([lot.names[at] for at in crew])


class TicksTest(ErrorCase):
    def held(self, lot, ticks, chance):
        """A yard is run, and what it lets is held against a slow walk back over the round."""
        living = alive_by_words(lot)
        whole = tuple([top * lot.span // bottom for top, bottom in lot.shares])
        crews = crews_up_to(len(lot.shares), len(lot.shares))
        yard = Yard(lot)
        had = (0,) * len(lot.shares)
        for moment in range(ticks):
            self.assertEqual(state(yard), (moment, had, moment))
            rounds, within = moment // lot.span, moment % lot.span
            right = choices_by_words(lot, living, within, with_whole(had, whole, -rounds))
            for crew in chance.sample(crews, min(8, len(crews))) + right[:3]:
                names = list(names_of(lot, crew))
                chance.shuffle(names)
                names = tuple(names)
                self.assertIs(yard.lets(names), crew in right)
                if len(crew) > lot.hands:
                    self.fails(TooMany, {"limit": lot.hands}, yard.tick, names)
                elif crew not in right:
                    self.fails(Dead, {"given": names}, yard.tick, names)
            self.assertEqual(state(yard), (moment, had, moment))
            crew = chance.choice(right)
            self.assertIsNone(yard.tick(names_of(lot, crew)))
            had = with_crew(had, crew)

    def test_lots_that_fit(self):
        chance = random.Random(61)
        for lot in (*LESS, *JUST):
            with self.subTest(lot=str(lot)):
                self.held(lot, min(lot.span, 14), chance)

    def test_several_rounds(self):
        chance = random.Random(62)
        for lot in (LESS[1], LESS[2], JUST[0], JUST[1], JUST[3], JUST[4]):
            self.held(lot, 3 * lot.span + 2, chance)

    def test_random_lots(self):
        chance = random.Random(63)
        for lot in random_lots(40, 64):
            if fits(lot):
                with self.subTest(lot=str(lot)):
                    self.held(lot, 10, chance)

    def test_a_long_round(self):
        self.held(LONG[2], 60, random.Random(65))

    def test_names_in_any_order(self):
        lot = Lot(THREE)
        for names in permutations(("ann", "cat")):
            yard = Yard(lot)
            self.assertIs(yard.lets(names), True)
            self.assertIsNone(yard.tick(names))
            self.assertEqual(yard.standing, (1, 0, 1))

    def test_no_hands(self):
        yard = Yard(lot_of(1, (1, 3)))
        for moment in range(2):
            self.assertIs(yard.lets(()), True)
            yard.tick(())
        self.assertIs(yard.lets(()), False)
        self.fails(Dead, {"given": ()}, yard.tick, ())
        self.assertEqual(state(yard), (2, (0,), 2))

    def test_at_first(self):
        for lot in (*LESS, *JUST, *LONG):
            if fits(lot):
                self.assertEqual(state(Yard(lot)), (0, (0,) * len(lot.shares), 0))

    def test_the_greatest_lots(self):
        """Six works with a round of 720, once around and some more; there is always some way on."""
        for lot in (LONG[0].with_hands(4), lot_of(3, *[(7, 16)] * 3, *[(8, 15)] * 2, (4, 9))):
            self.assertEqual((lot.span, fits(lot)), (720, True))
            yard = Yard(lot)
            crews = [names_of(lot, crew) for crew in crews_up_to(6, lot.hands)]
            chance = random.Random(66)
            for moment in range(800):
                chance.shuffle(crews)
                yard.tick([crew for crew in crews if yard.lets(crew)][0])
                if moment == 719:
                    self.assertEqual(yard.standing, tuple([top * 720 // bottom for top, bottom in lot.shares]))
            self.assertEqual((yard.moment, yard.changes), (800, 800))
            for _ in range(800):
                yard.undo()
            self.assertEqual(state(yard), (0, (0,) * 6, 0))


class WrongTest(ErrorCase):
    def test_no_lots(self):
        for value in NO_LOTS:
            self.fails(NotALot, {"given": value}, Yard, value)

    def test_too_long_a_round(self):
        for lot in TOO_LONG:
            self.fails(TooMany, {"limit": 720}, Yard, lot)
        # It does not fit either, but that is last.
        self.fails(TooMany, {"limit": 720}, Yard, lot_of(1, (15, 16), (8, 9), (6, 7)))

    def test_lots_that_do_not_fit(self):
        for lot in (*MORE, Lot(THREE).with_hands(1)):
            self.fails(Dead, {"given": lot}, Yard, lot)

    def refused(self, yard, names, wanted, attributes):
        before = state(yard)
        self.assertIs(yard.lets(names), False)
        self.fails(wanted, attributes, yard.tick, names)
        self.assertEqual(state(yard), before)

    def test_no_tuple(self):
        yard = Yard(Lot(THREE))
        for value in (None, True, 0, "", "ann", b"ann", [], ["ann", "cat"], {}, {"ann"}, {"ann": 1}, object(), Agreeable(), Lot(THREE)):
            self.refused(yard, value, InvalidNames, {"index": None})

    def test_no_names(self):
        yard = Yard(Lot(THREE))
        yard.tick(("ann", "cat"))
        for value in (*ODD_VALUES, 0, 1, "", "dan", "Ann", "ann ", "annann", ("ann",), ["ann"], b"ann"):
            with self.subTest(value=repr(value)):
                self.refused(yard, (value,), InvalidNames, {"index": 0})
                self.refused(yard, (value, "ann"), InvalidNames, {"index": 0})
                self.refused(yard, ("bob", value), InvalidNames, {"index": 1})
                self.refused(yard, ("bob", "ann", "cat", value), InvalidNames, {"index": 3})
                self.refused(yard, ("bob", value, value, "bob"), InvalidNames, {"index": 1})

    def test_there_already(self):
        yard = Yard(Lot(THREE))
        self.refused(yard, ("ann", "ann"), InvalidNames, {"index": 1})
        self.refused(yard, ("ann", "cat", "ann"), InvalidNames, {"index": 2})
        self.refused(yard, ("cat", "ann", "bob", "bob", "dan"), InvalidNames, {"index": 3})
        self.refused(yard, ("ann", "cat", "dan", "ann"), InvalidNames, {"index": 2})

    def test_more_than_hands(self):
        self.refused(Yard(Lot(THREE)), ("ann", "bob", "cat"), TooMany, {"limit": 2})
        self.refused(Yard(Lot(EVEN)), ("a", "b"), TooMany, {"limit": 1})
        # With hands enough it would be dead all the same, for then b is ahead of its share.
        lot = Lot("hands 1\nwork a 1/2\nwork b 1/4")
        yard = Yard(lot)
        yard.tick(("b",))
        self.refused(yard, ("a", "b"), TooMany, {"limit": 1})
        self.refused(yard, ("b",), Dead, {"given": ("b",)})

    def test_dead(self):
        yard = Yard(Lot(EVEN))
        yard.tick(("b",))
        for names in (("b",), ()):
            self.refused(yard, names, Dead, {"given": names})
        yard = Yard(Lot(THREE))
        for names in ((), ("ann",), ("bob",), ("cat",)):
            self.refused(yard, names, Dead, {"given": names})

    def test_nothing_to_undo(self):
        yard = Yard(Lot(EVEN))
        self.fails(NothingToUndo, {}, yard.undo)
        yard.tick(("a",))
        yard.undo()
        self.fails(NothingToUndo, {}, yard.undo)
        self.assertEqual(state(yard), (0, (0, 0), 0))


class UndoTest(ErrorCase):
    def test_tick_by_tick(self):
        chance = random.Random(67)
        for lot in (LESS[6], JUST[4], JUST[7]):
            yard = Yard(lot)
            crews = [names_of(lot, crew) for crew in crews_up_to(len(lot.shares), lot.hands)]
            path = [state(yard)]
            for _ in range(200):
                if len(path) > 1 and chance.random() < 0.4:
                    self.assertIsNone(yard.undo())
                    path.pop()
                else:
                    self.assertIsNone(yard.tick(chance.choice([crew for crew in crews if yard.lets(crew)])))
                    path.append(state(yard))
                self.assertEqual(state(yard), path[-1])
            for _ in range(len(path) - 1):
                yard.undo()
            self.assertEqual(state(yard), path[0])
            self.fails(NothingToUndo, {}, yard.undo)

    def test_other_ticks_behind_it(self):
        yard = Yard(Lot(EVEN))
        yard.tick(("a",))
        yard.undo()
        yard.tick(("b",))
        self.assertEqual(state(yard), (1, (0, 1), 1))
        self.assertIs(yard.lets(("b",)), False)


class TrialTest(ErrorCase):
    def test_a_call_alone_changes_nothing(self):
        yard = Yard(Lot(EVEN))
        yard.tick(("a",))
        before = state(yard)
        yard.trial()
        yard.trial()
        self.assertEqual(state(yard), before)
        trial = yard.trial()
        yard.tick(("b",))
        # It is as it was when the rows began, not when the trial was called for.
        with trial as held:
            self.assertIs(held, yard)
            yard.tick(("b",))
        self.assertEqual(state(yard), (2, (1, 1), 2))

    def test_rows_that_end_well(self):
        yard = Yard(Lot(EVEN))
        yard.tick(("a",))
        with yard.trial() as held:
            self.assertIs(held, yard)
            held.tick(("b",))
            yard.tick(("b",))
            self.assertEqual(state(yard), (3, (1, 2), 3))
        self.assertEqual(state(yard), (1, (1, 0), 1))
        yard.tick(("b",))
        self.assertEqual(state(yard), (2, (1, 1), 2))

    def test_rows_that_raise(self):
        yard = Yard(Lot(EVEN))
        yard.tick(("a",))
        fault = Fault("here")
        with self.assertRaises(Fault) as caught:
            with yard.trial():
                yard.tick(("b",))
                raise fault
        self.assertIs(caught.exception, fault)
        self.assertEqual(state(yard), (1, (1, 0), 1))
        with self.assertRaises(Dead):
            with yard.trial():
                yard.tick(("b",))
                yard.tick(())
        self.assertEqual(state(yard), (1, (1, 0), 1))
        with self.assertRaises(KeyboardInterrupt):
            with yard.trial():
                yard.undo()
                raise KeyboardInterrupt
        self.assertEqual(state(yard), (1, (1, 0), 1))

    def test_rows_that_are_left(self):
        yard = Yard(Lot(EVEN))

        def leave():
            for names in (("a",), ("b",)):
                with yard.trial():
                    yard.tick(names)
                    if names == ("b",):
                        return yard.standing
                    continue

        self.assertEqual(leave(), (0, 1))
        self.assertEqual(state(yard), (0, (0, 0), 0))
        while True:
            with yard.trial():
                yard.tick(("a",))
                break
        self.assertEqual(state(yard), (0, (0, 0), 0))

    def test_rows_that_take_back_what_was_there_before(self):
        yard = Yard(Lot(EVEN))
        for names in (("a",), ("b",), ("b",)):
            yard.tick(names)
        with yard.trial():
            yard.undo()
            yard.undo()
            yard.undo()
            self.fails(NothingToUndo, {}, yard.undo)
            yard.tick(("b",))
        self.assertEqual(state(yard), (3, (1, 2), 3))
        yard.undo()
        self.assertEqual(state(yard), (2, (1, 1), 2))
        yard.undo()
        yard.undo()
        self.fails(NothingToUndo, {}, yard.undo)

    def test_trials_within_trials(self):
        yard = Yard(Lot(EVEN))
        with yard.trial():
            yard.tick(("a",))
            with yard.trial() as inner:
                self.assertIs(inner, yard)
                inner.tick(("b",))
                with yard.trial():
                    yard.undo()
                    yard.undo()
                self.assertEqual(state(yard), (2, (1, 1), 2))
            self.assertEqual(state(yard), (1, (1, 0), 1))
            with self.assertRaises(Fault):
                with yard.trial():
                    yard.undo()
                    raise Fault
            self.assertEqual(state(yard), (1, (1, 0), 1))
        self.assertEqual(state(yard), (0, (0, 0), 0))

    def test_one_trial_several_times(self):
        yard = Yard(Lot(EVEN))
        trial = yard.trial()
        with trial:
            yard.tick(("a",))
            with trial:
                yard.tick(("b",))
                with trial:
                    yard.undo()
                self.assertEqual(yard.moment, 2)
            self.assertEqual(yard.moment, 1)
        self.assertEqual(yard.moment, 0)
        yard.tick(("b",))
        with trial:
            yard.tick(("a",))
        self.assertEqual(state(yard), (1, (0, 1), 1))

    def test_tried(self):
        yard = Yard(Lot(EVEN))
        yard.tick(("b",))
        told = [1]

        def action(held):
            self.assertIs(held, yard)
            held.tick(("a",))
            held.tick(("a",))
            return told

        self.assertIs(yard.tried(action), told)
        self.assertEqual(state(yard), (1, (0, 1), 1))
        self.assertEqual(yard.tried(action=lambda held: held.tried(lambda inner: (inner.tick(("a",)), inner.moment))), (None, 2))
        self.assertEqual(state(yard), (1, (0, 1), 1))
        self.assertIsNone(yard.tried(lambda held: held.undo()))
        self.assertEqual(state(yard), (1, (0, 1), 1))

    def test_tried_that_raises(self):
        yard = Yard(Lot(EVEN))
        fault = Fault("here")

        def action(held):
            held.tick(("a",))
            raise fault

        with self.assertRaises(Fault) as caught:
            yard.tried(action)
        self.assertIs(caught.exception, fault)
        self.assertEqual(state(yard), (0, (0, 0), 0))
        self.fails(NothingToUndo, {}, yard.tried, lambda held: held.undo())


class ObjectsTest(ErrorCase):
    def test_by_name(self):
        yard = Yard(lot=Lot(EVEN))
        self.assertIs(yard.lets(names=("a",)), True)
        self.assertIsNone(yard.tick(names=("a",)))
        self.assertEqual(yard.moment, 1)

    def test_two_side_by_side(self):
        lot = Lot(EVEN)
        one, other = Yard(lot), Yard(lot)
        one.tick(("a",))
        other.tick(("b",))
        with one.trial():
            one.undo()
            other.tick(("a",))
        self.assertEqual((state(one), state(other)), ((1, (1, 0), 1), (2, (1, 1), 2)))
        one.undo()
        self.assertEqual(state(other), (2, (1, 1), 2))
        self.assertEqual(lot.text, EVEN)

    def test_what_was_handed_out_stays(self):
        yard = Yard(Lot(EVEN))
        first = yard.standing
        yard.tick(("a",))
        second = yard.standing
        yard.tick(("b",))
        yard.undo()
        self.assertEqual((first, second, yard.standing), ((0, 0), (1, 0), (1, 0)))

    def test_equals_itself_alone(self):
        lot = Lot(EVEN)
        yard = Yard(lot)
        self.assertIs(yard == yard, True)
        self.assertIs(yard != yard, False)
        for other in (Yard(lot), *ODD_VALUES, 0, "", lot, yard.trial(), yard.standing):
            self.assertIs(yard == other, False, repr(other))
            self.assertIs(yard != other, True, repr(other))
        yard.tick(("a",))
        self.assertIs(yard == yard, True)

    def test_true(self):
        yard = Yard(Lot(EVEN))
        self.assertIs(bool(yard), True)
        yard.tick(("a",))
        self.assertIs(bool(yard), True)

    def test_kinds(self):
        yard = Yard(Lot(THREE))
        for names in (("ann", "cat"), ("bob", "cat")):
            yard.tick(names)
            self.assertEqual((type(yard.moment), type(yard.standing), type(yard.changes)), (int, tuple, int))
            self.assertEqual({type(number) for number in yard.standing}, {int})
            self.assertIs(type(yard.lets(names)), bool)

    def test_what_lets_is_asked_changes_nothing(self):
        yard = Yard(Lot(THREE))
        for value in (*ODD_VALUES, (), ("ann",), ("ann", "cat"), ("ann", "bob", "cat"), ("ann", "ann")):
            self.assertIs(yard.lets(value), value == ("ann", "cat") if isinstance(value, tuple) else False)
        self.assertEqual(state(yard), (0, (0, 0, 0), 0))
