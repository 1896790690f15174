"""Histories: what there is now and what there was before each change, so that changes can be taken back; and trials."""

from tickshares.errors import NothingToUndo


class Step:
    """What there is behind so many changes, and the step before the last one of them. It never changes."""

    def __init__(self, what, many, before):
        self.what = what
        self.many = many
        self.before = before


class History:
    """Its last step tells what there is now. It changes by being given another last step, and by nothing else."""

    def __init__(self, what):
        self.last = Step(what, 0, None)

    def go_on(self, what):
        """A change, behind which there is this."""
        self.last = Step(what, self.last.many + 1, self.last)

    def go_back(self):
        """Takes back the last change that has not been taken back."""
        if self.last.before is None:
            raise NothingToUndo()
        self.last = self.last.before


class Mark:
    """The last step of a history when a trial began, and the mark around it if the same trial stands within itself."""

    def __init__(self, last, outer):
        self.last = last
        self.outer = outer


class Trial:
    """For a `with` statement over what has this history: behind its rows all is as it was when they began."""

    def __init__(self, history, held):
        self._history = history
        self._held = held
        self._mark = None

    def __enter__(self):
        self._mark = Mark(self._history.last, self._mark)
        return self._held

    def __exit__(self, kind, value, trace):
        self._history.last = self._mark.last
        self._mark = self._mark.outer


class Attempt(Trial):
    """For a `with` statement likewise, but what was done stays if its rows end without an exception."""

    def __exit__(self, kind, value, trace):
        if kind is not None:
            self._history.last = self._mark.last
        self._mark = self._mark.outer
