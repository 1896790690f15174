"""All errors of the package: three base classes, and under each the classes that are raised.

An error keeps what it was made with as it was passed; nothing is asked of it, for it may be any value.
"""


class WrongValue(ValueError):
    """An argument is of the wrong kind or form."""

    def __init__(self):
        pass


class InvalidText(WrongValue):
    """A value is no text of a lot."""

    def __init__(self, given):
        self.given = given


class InvalidNumber(WrongValue):
    """A value is no integer, or not one of those that are asked for."""

    def __init__(self, given):
        self.given = given


class InvalidName(WrongValue):
    """A value is no name."""

    def __init__(self, given):
        self.given = given


class InvalidShare(WrongValue):
    """A value is no share."""

    def __init__(self, given):
        self.given = given


class InvalidRule(WrongValue):
    """A value is no rule."""

    def __init__(self, given):
        self.given = given


class InvalidStanding(WrongValue):
    """A value is no standing of the lot at the moment."""

    def __init__(self, given):
        self.given = given


class InvalidTable(WrongValue):
    """A value is no right table of the lot."""

    def __init__(self, given):
        self.given = given


class InvalidIndex(WrongValue):
    """A value is no index."""

    def __init__(self, given):
        self.given = given


class InvalidPromise(WrongValue):
    """A value is no promise by its form."""

    def __init__(self, given):
        self.given = given


class InvalidCommand(WrongValue):
    """A value is no command of the console."""

    def __init__(self, given):
        self.given = given


class NotALot(WrongValue):
    """A value is no lot."""

    def __init__(self, given):
        self.given = given


class InvalidLates(WrongValue):
    """An element of the lates is not valid."""

    def __init__(self, index):
        self.index = index


class InvalidCounts(WrongValue):
    """An element of the counts is not valid."""

    def __init__(self, index):
        self.index = index


class InvalidLog(WrongValue):
    """An element of the log is not valid."""

    def __init__(self, index):
        self.index = index


class InvalidForms(WrongValue):
    """An element of the forms is not valid."""

    def __init__(self, index):
        self.index = index


class InvalidNames(WrongValue):
    """An element of the names is not valid."""

    def __init__(self, index):
        self.index = index


class WrongName(LookupError):
    """A name stands for nothing, or for something that is still needed."""

    def __init__(self):
        pass


class UnknownName(WrongName):
    """Nothing has this name."""

    def __init__(self, given):
        self.given = given


class InUse(WrongName):
    """A promise still needs what has this name."""

    def __init__(self, index):
        self.index = index


class NoAnswer(ArithmeticError):
    """The arguments are in order, but what is asked for is too much or cannot be."""

    def __init__(self):
        pass


class TooMany(NoAnswer):
    """There are more than the limit."""

    def __init__(self, limit):
        self.limit = limit


class Alone(NoAnswer):
    """The only work of a lot cannot be taken away."""

    def __init__(self):
        pass


class Dead(NoAnswer):
    """Not all works can be kept for ever."""

    def __init__(self, given):
        self.given = given


class NothingToUndo(NoAnswer):
    """There is nothing that could be taken back."""

    def __init__(self):
        pass


class Broken(NoAnswer):
    """A promise would not be true."""

    def __init__(self, index, shown):
        self.index = index
        self.shown = shown
