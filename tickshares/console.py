"""The console: a desk that is worked by commands."""

from tickshares.commands import parts_of
from tickshares.desks import Desk
from tickshares.errors import InvalidCommand
from tickshares.lots import Lot
from tickshares.rules import missed, table_by
from tickshares.tables import count_tables, fewest_starts

DONE = "ok"
NOTHING = "none"


class Console:
    """A desk, and commands that change it or tell what it holds."""

    def __init__(self):
        self._desk = Desk()

    @property
    def desk(self):
        """The desk, at first empty."""
        return self._desk

    def run(self, command):
        """Does a command and returns its answer."""
        parts = parts_of(command)
        if parts is None:
            raise InvalidCommand(command)
        word, *told = parts
        action = ACTIONS[word]
        return action(self._desk, *told)

    def __eq__(self, other):
        return self is other


def _put(desk, title, text):
    """Puts the lot of this text."""
    desk[title] = Lot(text)
    return DONE


def _work(desk, title, name, share):
    """Puts the lot with this work in the place of the one that was there."""
    desk[title] = desk[title].put(name, share)
    return DONE


def _remove(desk, title):
    """Takes a lot away."""
    desk.remove(title)
    return DONE


def _undo(desk):
    """Takes back the last change."""
    desk.undo()
    return DONE


def _promise(desk, *promise):
    """Makes a promise."""
    desk.promise(promise)
    return DONE


def _total(desk, title):
    """The sum of the shares."""
    top, bottom = desk[title].total
    return f"{top}/{bottom}"


def _tables(desk, title):
    """How many right tables there are."""
    return str(count_tables(desk[title]))


def _starts(desk, title):
    """The fewest starts of a right table."""
    fewest = fewest_starts(desk[title])
    return NOTHING if fewest is None else str(fewest)


def _missed(desk, title, rule):
    """The first turn that the rule misses."""
    lost = missed(desk[title], rule)
    if lost is None:
        return NOTHING
    moment, name, turn = lost
    return f"{moment} {name} {turn}"


def _table(desk, title, rule):
    """The table that comes about by the rule."""
    lot = desk[title]
    ticks = table_by(lot, rule)
    if ticks is None:
        return NOTHING
    return " ".join([",".join([lot.names[at] for at in members]) or "-" for members in ticks])


def _lots(desk):
    """The names of the lots."""
    return " ".join(desk.titles) or NOTHING


def _promises(desk):
    """How many promises there are."""
    return str(len(desk.promises))


ACTIONS = {
    "put": _put, "work": _work, "remove": _remove, "undo": _undo, "promise": _promise,
    "total": _total, "tables": _tables, "starts": _starts, "missed": _missed, "table": _table,
    "lots": _lots, "promises": _promises,
}
