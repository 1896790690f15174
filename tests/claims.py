"""The words of the document about claims and certificates, followed slowly, and values that are one element otherwise."""

from fractions import Fraction
from functools import cache
from math import gcd

from tests.slow import all_kept, crews_up_to, is_plan_by_words, play_by_words, standings_by_words, with_crew
from tickshares.errors import InvalidText
from tickshares.lots import Lot
from tickshares.rules import RULES

LENGTHS = {"fits": 2, "over": 2, "misses": 7, "rule": 3, "plan": 3, "no plan": 3, "share": 4}

played = cache(lambda text, rule, ticks, lates: play_by_words(Lot(text), rule, ticks, lates))


def is_plain(value):
    """Whether the value consists of tuples, integers and strings alone; all claims and certificates do."""
    return type(value) in (int, str) or type(value) is tuple and all(map(is_plain, value))


@cache
def lot_by_words(text):
    """The lot of the text, None if there is none, or if its round is too long."""
    try:
        lot = Lot(text)
    except InvalidText:
        return None
    return lot if lot.span <= 720 else None


def accepted_by_words(claim, certificate):
    """Whether the claim is one for the checker, and the certificate one for it."""
    if not is_plain(claim) or not is_plain(certificate) or type(claim) is not tuple:
        return False
    if not claim or claim[0] not in LENGTHS or len(claim) != LENGTHS[claim[0]]:
        return False
    if claim[0] == "share":
        return certificate == () and is_share_of(*claim[1:])
    lot = lot_by_words(claim[1]) if type(claim[1]) is str else None
    if lot is None:
        return False
    if claim[0] == "fits":
        return is_plan_by_words(lot, (lot.hands,) * lot.span, certificate)
    if claim[0] == "over":
        return certificate == () and sum([Fraction(*share) for share in lot.shares]) > lot.hands
    if claim[0] in ("misses", "rule"):
        return certificate == () and claim[2] in RULES and is_played(lot, *claim[2:])
    if not are_counts(claim[2]):
        return False
    if claim[0] == "plan":
        return is_plan_by_words(lot, claim[2], certificate)
    return leads_nowhere(lot, claim[2], certificate)


def is_share_of(log, top, bottom):
    """Whether the fraction fits the log."""
    if type(log) is not tuple or not 1 <= len(log) <= 200 or any([part not in (0, 1) for part in log]):
        return False
    if type(top) is not int or type(bottom) is not int or not 1 <= top <= bottom or gcd(top, bottom) != 1:
        return False
    return all([abs(sum(log[:moment]) - moment * Fraction(top, bottom)) < 1 for moment in range(len(log) + 1)])


def is_played(lot, rule, *told):
    """Whether the rule misses nothing without lates, or this turn first with these."""
    if not told:
        return played(lot.text, rule, lot.span, ())[1] is None
    lates, moment, name, turn = told
    if not are_lates(lot, lates) or type(moment) is not int or not 0 <= moment <= 2000:
        return False
    return played(lot.text, rule, moment, lates)[1] == (moment, name, turn)


def are_lates(lot, value):
    """Whether the value is lates of the lot, and no more than can be passed."""
    if type(value) is not tuple or len(value) > 200:
        return False
    for triple in value:
        if type(triple) is not tuple or len(triple) != 3 or triple[0] not in lot.names:
            return False
        if any([type(number) is not int or not 1 <= number <= 10 ** 6 for number in triple[1:]]):
            return False
    return list(value) == sorted(value) and len(set([triple[:2] for triple in value])) == len(value)


def are_counts(value):
    """Whether the value is counts."""
    return type(value) is tuple and 1 <= len(value) <= 60 and all([number in range(7) for number in value])


def leads_nowhere(lot, counts, layers):
    """Whether the layers show that there is no plan."""
    if type(layers) is not tuple or not 1 <= len(layers) <= len(counts) + 1:
        return False
    for moment, layer in enumerate(layers):
        if type(layer) is not tuple or any([standing not in standings_by_words(lot, moment) for standing in layer]):
            return False
        if list(layer) != sorted(set(layer)):
            return False
    if (0,) * len(lot.shares) not in layers[0] or layers[-1] != ():
        return False
    for moment, hands in enumerate(counts[:len(layers) - 1]):
        for standing in layers[moment]:
            for crew in crews_up_to(len(standing), hands):
                behind = with_crew(standing, crew)
                if all_kept(lot, moment + 1, behind) and behind not in layers[moment + 1]:
                    return False
    return True


def bent(value):
    """Values that are in one place, at any depth, other than this one."""
    if type(value) is tuple:
        yield from (list(value), (*value, value), (*value, 0), (*value, ()), value[:-1], value[1:], value[::-1], value * 2, None, 0)
        for at, part in enumerate(value):
            yield (*value[:at], part, *value[at:])
            yield (*value[:at], *value[at + 1:])
            for other in bent(part):
                yield (*value[:at], other, *value[at + 1:])
    elif type(value) is int:
        yield from (value + 1, value - 1, -value, bool(value), str(value), (value,), [value], None, value + 10 ** 59, value * 2, "")
    else:
        yield from (value.encode(), value.upper(), value + " ", value + "\n", " " + value, (value,), [value], None, 0, True, value * 2)
        for at in range(len(value)):
            yield value[:at] + value[at + 1:]
            for sign in "1 2z/\n":
                yield value[:at] + sign + value[at + 1:]
