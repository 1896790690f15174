"""Desks: they keep lots under names, with promises that are true after each change."""

from tickshares.errors import InUse, InvalidIndex, InvalidName, InvalidPromise, UnknownName
from tickshares.histories import Attempt, History
from tickshares.lots import check_lot
from tickshares.promises import check_true, is_promise
from tickshares.values import is_name, is_number


class Desk:
    """Lots under names, and promises about them."""

    def __init__(self):
        # The history tells pairs of a dict of the lots by their names and of the tuple of the promises.
        self._history = History(({}, ()))

    @property
    def titles(self):
        """The ascending tuple of the names."""
        return tuple(sorted(self._lots()))

    @property
    def promises(self):
        """The tuple of the promises, as they were passed."""
        return self._history.last.what[1]

    @property
    def changes(self):
        """How many changes can be taken back."""
        return self._history.last.many

    def remove(self, name):
        """Takes away the lot with this name."""
        self._check_known(name)
        for index, promise in enumerate(self.promises):
            if promise[1] == name:
                raise InUse(index)
        others = {title: lot for title, lot in self._lots().items() if title != name}
        self._history.go_on((others, self.promises))

    def promise(self, promise):
        """A promise more, behind the others."""
        if not is_promise(promise):
            raise InvalidPromise(promise)
        name = promise[1]
        self._check_known(name)
        check_true(promise, len(self.promises), self._lots()[name])
        self._history.go_on((self._lots(), (*self.promises, promise)))

    def lift(self, index):
        """Takes away the promise with this index."""
        if not is_number(index, 0, len(self.promises) - 1):
            raise InvalidIndex(index)
        others = (*self.promises[:index], *self.promises[index + 1:])
        self._history.go_on((self._lots(), others))

    def undo(self):
        """Takes back the last change that has not been taken back."""
        self._history.go_back()

    def trial(self):
        """For a `with` statement; if its rows end by an exception, the desk is as it was when they began."""
        return Attempt(self._history, self)

    def tried(self, action):
        """What the function returns when it is called with the desk within such a statement."""
        with self.trial() as desk:
            return action(desk)

    def __setitem__(self, at, worth):
        """Puts the lot `worth` under the name `at`, also in the place of another one."""
        if not is_name(at):
            raise InvalidName(at)
        check_lot(worth)
        for index, promise in enumerate(self.promises):
            if promise[1] == at:
                check_true(promise, index, worth)
        lots = self._lots()
        self._history.go_on(({**lots, at: worth}, self.promises))

    def __getitem__(self, at):
        """The lot under the name `at`."""
        self._check_known(at)
        return self._lots()[at]

    def __contains__(self, x):
        # What is no string is not held against the names: it might say that it equals them.
        return isinstance(x, str) and x in self._lots()

    def __len__(self):
        return len(self._lots())

    def __bool__(self):
        return True

    def __eq__(self, other):
        return self is other

    def __iter__(self):
        # Without this Python would ask for the items 0, 1 and so on, which are no names.
        raise TypeError("a desk is not iterated over")

    def _lots(self):
        """The dict of the lots by their names, which is never changed."""
        return self._history.last.what[0]

    def _check_known(self, name):
        """Raises UnknownName if no lot has this name."""
        if name not in self:
            raise UnknownName(name)
