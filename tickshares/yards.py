"""Yards: a lot that is run tick by tick, and never comes to a standing that cannot be saved."""

from tickshares.crews import crew_of
from tickshares.errors import Dead, InvalidNames, TooMany
from tickshares.histories import History, Trial
from tickshares.lots import check_lot, check_round
from tickshares.standings import ahead_in
from tickshares.walks import round_of


class Yard:
    """A lot that is run tick by tick, from the moment 0 on."""

    def __init__(self, lot):
        check_lot(lot)
        check_round(lot)
        walk = round_of(lot)
        if not walk.is_alive(0, 0):
            raise Dead(lot)
        self._lot = lot
        self._walk = walk
        # The history tells the standings. Each change is a tick, so that there are as many as the moment tells.
        self._history = History((0,) * len(lot.shares))

    @property
    def moment(self):
        """The moment that has been come to."""
        return self._history.last.many

    @property
    def standing(self):
        """The standing at this moment."""
        return self._history.last.what

    @property
    def changes(self):
        """How many ticks can be taken back."""
        return self._history.last.many

    def tick(self, names):
        """The next tick, in which the works with these names get hands."""
        self._history.go_on(self._standing_behind(names))

    def undo(self):
        """Takes back the last tick that has not been taken back."""
        self._history.go_back()

    def lets(self, names):
        """Whether `tick` would raise nothing for this value."""
        try:
            self._standing_behind(names)
        except (InvalidNames, TooMany, Dead):
            return False
        return True

    def trial(self):
        """For a `with` statement, behind which the yard is as it was before."""
        return Trial(self._history, self)

    def tried(self, action):
        """What the function returns when it is called with the yard within such a statement."""
        with self.trial() as yard:
            return action(yard)

    def __eq__(self, other):
        return self is other

    def _standing_behind(self, names):
        """The standing behind a tick in which the works with these names get hands."""
        _check_names(self._lot, names)
        if len(names) > self._lot.hands:
            raise TooMany(self._lot.hands)
        standing = self.standing
        ahead = ahead_in(self._lot, self.moment, standing)
        crew = crew_of([self._lot.names.index(name) for name in names])
        if crew not in self._walk.choices(self.moment % self._lot.span, ahead):
            raise Dead(names)
        return tuple([number + (crew >> at & 1) for at, number in enumerate(standing)])


def _check_names(lot, names):
    """Raises InvalidNames for what is no tuple of different names of works of the lot."""
    if not isinstance(names, tuple):
        raise InvalidNames(None)
    for index, name in enumerate(names):
        # What is no string is not held against the names: it might say that it equals them.
        if not isinstance(name, str) or name not in lot.names or name in names[:index]:
            raise InvalidNames(index)
