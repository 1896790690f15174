"""The checker: it looks at claims by itself, by the words of the document, and takes nothing over from the searches."""

from math import gcd

from tickshares.errors import TooMany, WrongValue
from tickshares.kept import are_kept, is_kept, keeps_all
from tickshares.lates import check_lates
from tickshares.limits import MOST_RUN
from tickshares.lots import Lot, check_round, fits
from tickshares.misses import first_miss
from tickshares.picks import all_picks
from tickshares.plans import check_counts
from tickshares.rules import check_rule
from tickshares.seen import check_log
from tickshares.values import is_number, is_number_from


def accepts(claim, certificate):
    """True if the claim is one for the checker and the certificate is one for it, otherwise False."""
    if not isinstance(claim, tuple) or len(claim) == 0:
        return False
    word, *told = claim
    if not isinstance(word, str) or word not in LOOKS or len(told) != LENGTHS[word]:
        return False
    look = LOOKS[word]
    try:
        return look(certificate, *told)
    except (WrongValue, TooMany):
        # What stands there is no text of a lot, no rule and so on, or the round of the lot is too long.
        return False


def _has_table(certificate, text):
    """Whether the certificate is a right table."""
    lot = _lot_of(text)
    return keeps_all(lot.shares, (lot.hands,) * lot.span, certificate)


def _has_no_table(certificate, text):
    """Whether there is no right table."""
    return _is_empty(certificate) and not fits(_lot_of(text))


def _misses_first(certificate, text, rule, lates, moment, name, turn):
    """Whether the rule misses this turn first."""
    lot = _lot_of(text)
    check_rule(rule)
    check_lates(lot, lates)
    if not _is_empty(certificate) or not is_number(moment, 0, MOST_RUN):
        return False
    if not isinstance(name, str) or not is_number_from(turn, 1):
        return False
    return first_miss(lot, rule, lates, moment) == (moment, name, turn)


def _misses_nothing(certificate, text, rule):
    """Whether the rule misses nothing without lates, which one round shows: behind it all is as at the start."""
    lot = _lot_of(text)
    check_rule(rule)
    return _is_empty(certificate) and first_miss(lot, rule, (), lot.span) is None


def _has_plan(certificate, text, counts):
    """Whether the certificate is a plan."""
    lot = _lot_of(text)
    check_counts(counts)
    return keeps_all(lot.shares, counts, certificate)


def _has_no_plan(certificate, text, counts):
    """Whether the certificate holds, moment by moment, all standings that one can come to, and none in the end."""
    shares = _lot_of(text).shares
    check_counts(counts)
    if not isinstance(certificate, tuple) or not 1 <= len(certificate) <= len(counts) + 1:
        return False
    if not all([_are_standings(shares, moment, layer) for moment, layer in enumerate(certificate)]):
        return False
    # At the moment 0 the zeros are the only standing.
    if len(certificate[0]) == 0 or len(certificate[-1]) > 0:
        return False
    for moment, layer in enumerate(certificate[:-1]):
        behind = {standing: True for standing in certificate[moment + 1]}
        for standing in layer:
            if not all([other in behind for other in _all_behind(shares, moment, standing, counts[moment])]):
                return False
    return True


def _has_share(certificate, log, top, bottom):
    """Whether the fraction fits the log."""
    check_log(log)
    if not _is_empty(certificate) or not is_number_from(bottom, 1) or not is_number(top, 1, bottom):
        return False
    if gcd(top, bottom) > 1:
        return False
    return all([is_kept((top, bottom), moment, sum(log[:moment])) for moment in range(len(log) + 1)])


def _lot_of(text):
    """The lot of this text, of a round that is not too long."""
    lot = Lot(text)
    check_round(lot)
    return lot


def _is_empty(certificate):
    """Whether the certificate is ()."""
    # It is not held against () itself: it might say that it equals it.
    return isinstance(certificate, tuple) and len(certificate) == 0


def _are_standings(shares, moment, layer):
    """Whether the layer is an ascending tuple of standings at the moment."""
    if not isinstance(layer, tuple):
        return False
    before = ()
    for standing in layer:
        if not _is_standing(shares, moment, standing) or standing <= before:
            return False
        before = standing
    return True


def _is_standing(shares, moment, value):
    """Whether the value is a standing at the moment."""
    if not isinstance(value, tuple) or len(value) != len(shares):
        return False
    return all([is_number_from(number, 0) for number in value]) and are_kept(shares, moment, value)


def _all_behind(shares, moment, standing, hands):
    """All standings that one can come to from this one in a tick with so many hands."""
    options = []
    for share, number in zip(shares, standing):
        options.append([other for other in (number, number + 1) if is_kept(share, moment + 1, other)])
    return [other for other in all_picks(options) if sum(other) - sum(standing) <= hands]


# For each claim what looks at it, and how much the claim tells behind its word.
LOOKS = {
    "fits": _has_table, "over": _has_no_table, "misses": _misses_first, "rule": _misses_nothing, "plan": _has_plan,
    "no plan": _has_no_plan, "share": _has_share,
}
LENGTHS = {"fits": 1, "over": 1, "misses": 6, "rule": 2, "plan": 2, "no plan": 2, "share": 3}
