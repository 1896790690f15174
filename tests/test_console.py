import random
import unittest

from tests.lots_to_try import SMALL_LOTS, TOO_LONG
from tests.slow import lot_of, starts_of, tables_by_words
from tests.support import ODD_VALUES, THREE, Agreeable, ErrorCase
from tests.test_tables import FEW
from tickshares.console import Console
from tickshares.desks import Desk
from tickshares.errors import (
    Broken, InUse, InvalidCommand, InvalidName, InvalidShare, InvalidText, NoAnswer, NothingToUndo, TooMany, UnknownName,
    WrongName, WrongValue,
)
from tickshares.lots import Lot
from tickshares.rules import RULES, missed, table_by
from tickshares.tables import count_tables, fewest_starts

EVEN = "hands 1\nwork a 1/2\nwork b 1/2"
CROWD = "hands 1\nwork ann 1/2\nwork bob 2/3"

# Commands with names, rules, numbers and shares that may stand in them; x is a lot and has a promise, y is none.
FORMS = (
    "put x\nhands 1\nwork ann 2/3", "put y\n", "work x ann 1/2", "work y bob 3/4", "work x a 0/1", "work x a 17/16", "remove x",
    "remove y", "undo", "promise fits x", "promise fits y", "promise rule x nearest", "promise rule y overlap", "promise rule x keen",
    "promise rule x behind", "promise tables x 0", "promise tables x 12", "promise starts y 3", "promise starts x 10", "total x",
    "total y", "tables x", "tables y", "starts x", "starts y", "missed x keen", "missed y nearest", "table x behind", "table y keen",
    "lots", "promises",
)

NO_COMMANDS = (
    *ODD_VALUES, 0, 1, ("undo",), ["undo"], b"undo", b"lots", "", " ", "\n", "und", "Undo", "undo ", " undo", "undo\n", "\nundo",
    "undo undo", "undo x", "lots ", "lots x", "lot", "promises x", "promise", "promise ", "promise x", "promise fits",
    "promise fits ", "promise fits X", "promise fits x y", "promise holds x", "promise  fits x", "promise fits  x", "promise\nfits x",
    "promise fits x\n", "promise fits\nx", "fits x", "rule x keen", "promise rule x", "promise rule x ", "promise rule x Keen",
    "promise rule x none", "promise rule keen x", "promise rule x keen 1", "promise rule x keen ", "promise tables x",
    "promise tables x ", "promise tables x -1", "promise tables x +1", "promise tables x 01", "promise tables x 00",
    "promise tables x 1.0", "promise tables x 1_0", "promise tables x 1 ", "promise tables x 1 1", "promise tables x ten",
    "promise tables 1 x", "promise tables x 1/2", f"promise tables x {10 ** 60 + 1}", f"promise tables x {10 ** 61}",
    f"promise starts x {10 ** 60 + 1}", f"promise starts x 0{10 ** 60}", "promise starts x", "promise starts x -0",
    "promise starts x none", "promise starts x 1\n", "put", "put ", "put x", "put x ", "put x \nhands 1", "put  x\nhands 1", " put x\nhands 1",
    "put X\nhands 1", "put x y\nhands 1", "put\nhands 1", "put \nhands 1", "put\nx\nhands 1", "put abcdefghi\nhands 1", "Put x\nhands 1",
    "put x hands 1", "remove", "remove ", "remove X", "remove x ", "remove x y", "remove x\n", "remove\nx", "work", "work x",
    "work x ann", "work x ann ", "work x ann 1", "work x ann 1/", "work x ann /2", "work x ann 1/2/3", "work x ann 1/2 ",
    "work x ann  1/2", "work  x ann 1/2", "work x ann 1 /2", "work x ann 1/ 2", "work x ann 01/2", "work x ann 1/02", "work x ann -1/2",
    "work x ann +1/2", "work x ann 00/1", "work x ann 1/2\n", "work x Ann 1/2", "work X ann 1/2", "work x ann 1//2", "work x ann a/b",
    "work x ann 1/2 1/3", f"work x ann {10 ** 60}/1", f"work x ann 1/{10 ** 60}", f"work x ann {'1' * 61}/{'1' * 61}",
    "work x annannann 1/2", "work x 1/2 ann", "total", "total ", "total X", "total x y", "total x ", "total\nx", "tables",
    "tables X", "tables x 1", "tables x ", "starts", "starts x y", "starts X", "missed x", "missed", "missed x none", "missed x Keen",
    "missed keen x", "missed x keen ", "missed x keen keen", "table x", "table", "table x none", "table X keen", "table x keen\n",
    "hands 1", EVEN, THREE, "help", "get x", "x", "lots\n", "promises ", "promises\n", "tables\tx", "total\tx",
)


def state(console):
    """All that the desk of a console tells."""
    desk = console.desk
    return desk.titles, tuple([desk[name].text for name in desk.titles]), desk.promises, desk.changes


def ready():
    """A console with a lot x of which there is a promise, and a lot z."""
    console = Console()
    for command in ("put x\n" + EVEN, "promise fits x", "put z\n" + CROWD):
        console.run(command)
    return console


class CommandsTest(ErrorCase):
    def told(self, console, *commands):
        return [console.run(command) for command in commands]

    def test_at_first(self):
        console = Console()
        self.assertEqual(state(console), ((), (), (), 0))
        self.assertEqual(self.told(console, "lots", "promises"), ["none", "0"])
        self.assertIs(type(console.desk), Desk)

    def test_changes(self):
        console = Console()
        told = self.told(console, "put x\n" + EVEN, "put ann\n" + THREE, "work x c 1/3", "undo", "promise fits x",
                         "promise rule x behind", "promise tables x 2", "promise starts x 2", "put x\n" + EVEN, "remove ann")
        self.assertEqual(told, ["ok"] * 10)
        promises = (("fits", "x"), ("rule", "x", "behind"), ("tables", "x", 2), ("starts", "x", 2))
        self.assertEqual(state(console), (("x",), (EVEN,), promises, 8))
        self.assertEqual(self.told(console, "undo", "lots", "undo", "undo", "promises"), ["ok", "ann x", "ok", "ok", "3"])

    def test_numbers_of_promises(self):
        console = ready()
        for number in (0, 1):
            self.fails_with(Broken, {"index": 1, "shown": 2}, console, f"promise starts x {number}")
        for number in (2, 9, 10, 10 ** 59, 10 ** 60 - 1, 10 ** 60):
            self.assertEqual(console.run(f"promise starts x {number}"), "ok")
            self.assertEqual(console.desk.promises[-1], ("starts", "x", number))

    def test_total(self):
        console = Console()
        for lot, wanted in ((EVEN, "1/1"), (CROWD, "7/6"), (THREE, "2/1"), ("hands 1\nwork a 1/16", "1/16")):
            console.run("put x\n" + lot)
            self.assertEqual(console.run("total x"), wanted)
        for lot in (*SMALL_LOTS, *TOO_LONG):
            console.desk["x"] = lot
            self.assertEqual(console.run("total x"), "/".join([str(number) for number in lot.total]))

    def test_tables_and_starts(self):
        console = Console()
        for lot in FEW:
            console.desk["lot"] = lot
            tables = tables_by_words(lot)
            fewest = min([starts_of(ticks) for ticks in tables], default="none")
            self.assertEqual(self.told(console, "tables lot", "starts lot"), [str(len(tables)), str(fewest)])

    def test_missed_and_table(self):
        console = Console()
        for lot in SMALL_LOTS:
            console.desk["lot"] = lot
            for rule in RULES:
                lost, ticks = missed(lot, rule), table_by(lot, rule)
                self.assertEqual(console.run(f"missed lot {rule}"), "none" if lost is None else " ".join(map(str, lost)))
                rows = [",".join([lot.names[at] for at in crew]) if crew else "-" for crew in ticks or ()]
                self.assertEqual(console.run(f"table lot {rule}"), "none" if lost else " ".join(rows))

    def test_answers_as_they_are_shown(self):
        console = Console()
        console.run("put x\n" + THREE)
        console.run("put y\n" + CROWD)
        self.assertEqual(console.run("table x keen"), "ann,cat bob,cat ann,cat ann,bob ann,cat bob,cat")
        self.assertEqual(self.told(console, "missed y nearest", "table y nearest", "missed x behind"), ["6 bob 4", "none", "none"])
        console.run("put z\nhands 1\nwork ann 2/3\nwork bob 1/2")
        self.assertEqual(self.told(console, "missed z nearest", "total z", "starts z", "tables z"), ["6 bob 3", "7/6", "none", "0"])
        console.run("put w\nhands 1\nwork a 1/3")
        self.assertEqual(self.told(console, "table w keen", "starts w", "tables w", "lots"), ["a - -", "1", "3", "w x y z"])

    def test_great_numbers_of_tables(self):
        console = Console()
        lot = lot_of(6, (7, 16), (9, 16), (8, 15), (7, 15), (4, 9), (5, 9))
        console.desk["x"] = lot
        self.assertEqual(console.run("tables x"), str(count_tables(lot)))
        self.assertEqual(console.run("starts x"), str(fewest_starts(lot)))

    def fails_with(self, wanted, attributes, console, command):
        """The command raises this very class with equal attributes, and the desk stays as it is."""
        before = state(console)
        with self.assertRaises(wanted) as caught:
            console.run(command)
        self.assertEqual((caught.exception.__class__, vars(caught.exception)), (wanted, attributes), command)
        self.assertEqual(state(console), before)

    def test_unknown_names(self):
        console = ready()
        for command in ("work y ann 0/1", "work y ann 1/2", "remove y", "promise fits y", "promise rule y keen", "promise tables y 0",
                        "promise starts y 5", "total y", "tables y", "starts y", "missed y keen", "table y behind"):
            self.fails_with(UnknownName, {"given": "y"}, console, command)
        self.fails_with(UnknownName, {"given": "ok"}, Console(), "total ok")

    def test_texts(self):
        console = ready()
        for text in ("", " ", "\n", "x", "hands 1", "hands 7\nwork a 1/2", EVEN + "\n", "\n" + EVEN, EVEN + " ", "put x\n" + EVEN,
                     "hands 1\nwork a 2/4", "hands 1\n\nwork a 1/2", "hands 01\nwork a 1/2", "undo"):
            self.fails_with(InvalidText, {"given": text}, console, "put x\n" + text)
            self.fails_with(InvalidText, {"given": text}, console, "put new\n" + text)

    def test_shares(self):
        console = ready()
        top = int("9" * 60)
        for share in ((0, 1), (0, 0), (1, 0), (2, 4), (3, 2), (1, 17), (16, 17), (top, 1), (1, top), (top, top), (10 ** 59, 10 ** 59)):
            self.fails_with(InvalidShare, {"given": share}, console, f"work x a {share[0]}/{share[1]}")
            self.fails_with(InvalidShare, {"given": share}, console, f"work x new {share[0]}/{share[1]}")

    def test_works(self):
        console = ready()
        for command, text in (("work z ann 1/1", "hands 1\nwork ann 1/1\nwork bob 2/3"), ("work z c 15/16", "hands 1\nwork ann 1/1\nwork bob 2/3\nwork c 15/16")):
            self.assertEqual(console.run(command), "ok")
            self.assertEqual(console.desk["z"].text, text)
        for name in "def":
            console.run(f"work z {name} 1/2")
        self.fails_with(TooMany, {"limit": 6}, console, "work z g 1/2")
        self.fails_with(InvalidShare, {"given": (0, 1)}, console, "work z g 0/1")
        self.assertEqual(console.run("work z f 1/3"), "ok")

    def test_promises_that_would_break(self):
        console = ready()
        self.fails_with(Broken, {"index": 0, "shown": (4, 3)}, console, "work x c 1/3")
        self.fails_with(Broken, {"index": 0, "shown": (7, 6)}, console, "put x\n" + CROWD)
        self.fails_with(Broken, {"index": 1, "shown": (7, 6)}, console, "promise fits z")
        self.fails_with(Broken, {"index": 1, "shown": missed(Lot(CROWD), "keen")}, console, "promise rule z keen")
        self.fails_with(Broken, {"index": 1, "shown": 2}, console, f"promise tables x {10 ** 60}")
        self.fails_with(Broken, {"index": 1, "shown": None}, console, f"promise starts z {10 ** 60}")
        self.fails_with(InUse, {"index": 0}, console, "remove x")

    def test_nothing_to_undo(self):
        self.fails_with(NothingToUndo, {}, Console(), "undo")

    def test_too_long_a_round(self):
        console = ready()
        console.desk["y"] = TOO_LONG[0]
        for command in ("tables y", "starts y", "missed y keen", "table y nearest", "promise rule y keen", "promise tables y 0",
                        "promise starts y 0"):
            self.fails_with(TooMany, {"limit": 720}, console, command)
        self.assertEqual(console.run("promise fits y"), "ok")

    def test_what_only_tells_changes_nothing(self):
        console = ready()
        before = state(console)
        for command in ("total x", "tables x", "starts x", "missed x keen", "missed z keen", "table z nearest", "lots", "promises"):
            self.assertIs(type(console.run(command)), str)
            self.assertEqual(state(console), before)


class InvalidTest(ErrorCase):
    def refused(self, value):
        console = ready()
        before = state(console)
        self.fails(InvalidCommand, {"given": value}, console.run, value)
        self.assertEqual(state(console), before)

    def test_no_commands(self):
        for value in (*NO_COMMANDS, Agreeable()):
            with self.subTest(value=repr(value)):
                self.refused(value)

    def test_the_forms_are_commands(self):
        for command in FORMS:
            console = ready()
            try:
                self.assertIs(type(console.run(command)), str)
            except (WrongValue, WrongName, NoAnswer) as error:
                self.assertNotIsInstance(error, (InvalidCommand, InvalidName), command)

    def test_spaces_and_newlines(self):
        for command in FORMS:
            head, newline, text = command.partition("\n")
            words = head.split(" ")
            for at in range(len(words) + 1):
                for odd in ("", "\n", "\t", "1", "x"):
                    if odd == "x" and (at == 0 or len(words) == 1):
                        continue
                    other = " ".join([*words[:at], odd, *words[at:]]) + newline + text
                    if not self.is_another(other):
                        self.refused(other)
            for at in range(1, len(words)):
                self.refused("".join([" ".join(words[:at]), " ".join(words[at:])]) + newline + text)
                self.refused("\n".join([" ".join(words[:at]), " ".join(words[at:])]) + newline + text)
            if not newline:
                self.refused(command + " ")
                self.refused(" " + command)
                self.refused(command + "\n")
                self.refused(command.upper())

    def is_another(self, command):
        """Whether a word more makes another command of it."""
        return command.startswith("put ") and command.split("\n")[0].count(" ") == 1 and command.split("\n")[0][4:].isalpha()

    def test_a_word_less(self):
        for command in FORMS:
            head, newline, text = command.partition("\n")
            words = head.split(" ")
            for at in range(len(words)):
                other = " ".join([*words[:at], *words[at + 1:]]) + newline + text
                self.refused(other)

    def test_drawn_signs(self):
        chance = random.Random(81)
        for _ in range(2000):
            value = "".join(chance.choices("xputlos \n1/-", k=chance.randint(0, 9)))
            if value != "lots" and not (value.startswith("put ") and "\n" in value):
                self.refused(value)


class ObjectsTest(ErrorCase):
    def test_by_name(self):
        self.assertEqual(Console().run(command="lots"), "none")

    def test_the_desk_shows_what_the_commands_did(self):
        console = Console()
        desk = console.desk
        console.run("put x\n" + EVEN)
        console.run("promise tables x 2")
        self.assertIs(console.desk, desk)
        self.assertEqual((desk["x"].text, desk.promises, desk.changes), (EVEN, (("tables", "x", 2),), 2))
        desk.undo()
        desk["y"] = Lot(CROWD)
        desk.remove("x")
        self.assertEqual([console.run(command) for command in ("lots", "promises", "total y", "undo", "lots")],
                         ["y", "0", "7/6", "ok", "x y"])

    def test_commands_within_a_trial(self):
        console = ready()
        before = state(console)
        with self.assertRaises(Broken):
            with console.desk.trial():
                console.run("remove z")
                console.run("work x c 1/2")
        self.assertEqual(state(console), before)

    def test_two_side_by_side(self):
        one, other = Console(), Console()
        one.run("put x\n" + EVEN)
        self.assertEqual((one.run("lots"), other.run("lots")), ("x", "none"))

    def test_equals_itself_alone(self):
        console = Console()
        self.assertIs(console == console, True)
        self.assertIs(console != console, False)
        for other in (Console(), *ODD_VALUES, console.desk, "", 0):
            self.assertIs(console == other, False, repr(other))
            self.assertIs(console != other, True, repr(other))
        self.assertIs(bool(console), True)
