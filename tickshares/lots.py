"""Lots: a number of hands, and works with their shares of them."""

from math import gcd, lcm

from tickshares.errors import Alone, InvalidName, InvalidShare, InvalidText, NotALot, TooMany, UnknownName
from tickshares.limits import MOST_HANDS, MOST_PERIOD, MOST_ROUND, MOST_WORKS
from tickshares.values import check_number, is_name, is_share


class Lot:
    """Hands and works in an order, as a text tells them. It never changes."""

    def __init__(self, text):
        if not isinstance(text, str):
            raise InvalidText(text)
        first, *rows = text.split("\n")
        hands = _read_hands(first)
        works = _read_works(rows)
        if hands is None or works is None or not 1 <= len(works) <= MOST_WORKS:
            raise InvalidText(text)
        self._text = text
        self._hands = hands
        self._names = tuple(works)
        self._shares = tuple(works.values())
        self._span = _span_of(self._shares)
        self._total = _total_of(self._shares, self._span)

    @property
    def text(self):
        """The text of the lot."""
        return self._text

    @property
    def hands(self):
        """The number of hands."""
        return self._hands

    @property
    def names(self):
        """The names of the works, in their order."""
        return self._names

    @property
    def shares(self):
        """The shares of the works as fractions, in their order."""
        return self._shares

    @property
    def total(self):
        """The sum of the shares, a fraction."""
        return self._total

    @property
    def span(self):
        """The round of the lot."""
        return self._span

    def put(self, name, share):
        """The lot with this work, in the place of the one with its name, or behind the others."""
        if not is_name(name):
            raise InvalidName(name)
        if not is_share(share):
            raise InvalidShare(share)
        # A dict keeps the place of a name that it has, and puts a new one last.
        works = dict(zip(self._names, self._shares))
        works[name] = share
        if len(works) > MOST_WORKS:
            raise TooMany(MOST_WORKS)
        return Lot(_text_of(self._hands, works))

    def without(self, name):
        """The lot without the work of this name."""
        check_name(self, name)
        if len(self._names) == 1:
            raise Alone()
        works = dict(zip(self._names, self._shares))
        del works[name]
        return Lot(_text_of(self._hands, works))

    def with_hands(self, number):
        """The lot with so many hands."""
        check_number(number, 1, MOST_HANDS)
        return Lot(_text_of(number, dict(zip(self._names, self._shares))))

    def __eq__(self, other):
        return isinstance(other, Lot) and self._text == other._text

    def __str__(self):
        return str(self._text)

    def __repr__(self):
        return f"Lot of {len(self._names)} works, {self._hands} hands"


def fits(lot):
    """Whether the shares sum to no more than the hands."""
    check_lot(lot)
    top, bottom = lot.total
    return top <= lot.hands * bottom


def check_lot(lot):
    """Raises NotALot for what is no lot."""
    if not isinstance(lot, Lot):
        raise NotALot(lot)


def check_name(lot, name):
    """Raises UnknownName for what is no name of a work of the lot."""
    # What is no string is not held against the names: it might say that it equals them.
    if not isinstance(name, str) or name not in lot.names:
        raise UnknownName(name)


def check_round(lot):
    """Raises TooMany for a lot whose round is too long for what counts it tick by tick."""
    if lot.span > MOST_ROUND:
        raise TooMany(MOST_ROUND)


def share_of(lot, name):
    """The share of the work of this name."""
    return lot.shares[lot.names.index(name)]


def _read_hands(row):
    """The number of hands that the row tells, None if it tells none."""
    words = row.split(" ")
    if len(words) != 2 or words[0] != "hands":
        return None
    return _read_number(words[1], MOST_HANDS)


def _read_works(rows):
    """The dict of names and shares that the rows tell, None if one of them tells none, or a name stands twice."""
    works = {}
    for row in rows:
        work = _read_work(row)
        if work is None or work[0] in works:
            return None
        works[work[0]] = work[1]
    return works


def _read_work(row):
    """The pair of name and share that the row tells, None if it tells none."""
    words = row.split(" ")
    if len(words) != 3 or words[0] != "work" or not is_name(words[1]):
        return None
    share = tuple([_read_number(word, MOST_PERIOD) for word in words[2].split("/")])
    if not is_share(share):
        return None
    return words[1], share


def _read_number(word, most):
    """The number from 1 to most that is written as this word, None if it is none of them."""
    # To write the few numbers and compare leaves no other way of writing them in: no sign, no zero, no blank.
    for number in range(1, most + 1):
        if word == str(number):
            return number
    return None


def _text_of(hands, works):
    """The text of the lot with so many hands and the dict of names and shares."""
    rows = [f"work {name} {top}/{bottom}" for name, (top, bottom) in works.items()]
    return "\n".join([f"hands {hands}", *rows])


def _span_of(shares):
    """The least common multiple of the bottoms of the shares."""
    span = 1
    for _, bottom in shares:
        span = lcm(span, bottom)
    return span


def _total_of(shares, span):
    """The sum of the shares as a fraction; the span is a multiple of all their bottoms."""
    parts = sum([top * (span // bottom) for top, bottom in shares])
    common = gcd(parts, span)
    return parts // common, span // common
