"""Rules of urgency: whom they put first, and what turns they miss."""

from tickshares.errors import InvalidRule
from tickshares.lots import check_lot, check_round
from tickshares.paces import order_of, paces_of
from tickshares.plays import play
from tickshares.standings import check_standing
from tickshares.turns import begin_of
from tickshares.values import check_moment

RULES = ("nearest", "overlap", "keen", "behind")


def order_by(lot, rule, moment, standing):
    """The indexes of the works that are due in the tick behind the moment, as the rule puts them."""
    check_lot(lot)
    check_rule(rule)
    check_moment(moment)
    check_standing(lot, moment, standing)
    stands = [
        (number % share[0], moment - begin_of(share, number + 1)) for share, number in zip(lot.shares, standing)
    ]
    return order_of(paces_of(lot, rule), stands)


def table_by(lot, rule):
    """The table that comes about by the rule, None if it misses something."""
    told, lost = _played(lot, rule)
    return told if lost is None else None


def missed(lot, rule):
    """The triple (moment, name, turn) of the first turn that the rule misses, None if it never misses any."""
    _, lost = _played(lot, rule)
    return lost


def is_rule(value):
    """Whether the value is a rule."""
    # What is no string is not held against the rules: it might say that it equals them.
    return isinstance(value, str) and value in RULES


def check_rule(rule):
    """Raises InvalidRule for what is no rule."""
    if not is_rule(rule):
        raise InvalidRule(rule)


def _played(lot, rule):
    """What comes of the rule in a round. If it misses nothing there, all is at its end as it was at the start."""
    check_lot(lot)
    check_rule(rule)
    check_round(lot)
    return play(lot, rule, [{}] * len(lot.shares), lot.span)
