"""Promises of a desk: what they look like, and whether they are true for a lot."""

from tickshares.errors import Broken
from tickshares.lots import fits
from tickshares.rules import is_rule, missed
from tickshares.tables import count_tables, fewest_starts
from tickshares.values import is_name, is_number

MOST_PROMISED = 10 ** 60


def is_promise(value):
    """Whether the value is a promise by its form, whatever lots there are."""
    if not isinstance(value, tuple) or len(value) < 2:
        return False
    word, name, *rest = value
    if not isinstance(word, str) or word not in QUESTIONS or not is_name(name):
        return False
    if word == "fits":
        return len(rest) == 0
    if len(rest) != 1:
        return False
    return is_rule(rest[0]) if word == "rule" else is_number(rest[0], 0, MOST_PROMISED)


def check_true(promise, index, lot):
    """Raises Broken, with this index, if the promise is not true for this lot, TooMany if its round is too long."""
    word, _, *rest = promise
    question = QUESTIONS[word]
    holds, shown = question(lot, *rest)
    if not holds:
        raise Broken(index, shown)


def _asked_sum(lot):
    """Whether the shares sum to no more than the hands, and their sum."""
    return fits(lot), lot.total


def _asked_rule(lot, rule):
    """Whether the rule misses nothing, and what it misses."""
    lost = missed(lot, rule)
    return lost is None, lost


def _asked_tables(lot, number):
    """Whether there are so many right tables at least, and how many there are."""
    many = count_tables(lot)
    return many >= number, many


def _asked_starts(lot, number):
    """Whether some right table has so many starts at most, and the fewest that one has."""
    fewest = fewest_starts(lot)
    return fewest is not None and fewest <= number, fewest


QUESTIONS = {"fits": _asked_sum, "rule": _asked_rule, "tables": _asked_tables, "starts": _asked_starts}
