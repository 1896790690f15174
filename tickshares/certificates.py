"""Certificates: claims with all that the checker needs to accept them."""

from tickshares.lates import worst
from tickshares.lots import check_lot, check_round
from tickshares.plans import check_counts, layers_of, plan
from tickshares.rules import missed
from tickshares.seen import simplest
from tickshares.tables import table


def certify(lot):
    """The claim that the lot has a right table, with one, or that it has none."""
    found = table(lot)
    if found is None:
        return ("over", lot.text), ()
    return ("fits", lot.text), found


def certify_rule(lot, rule):
    """The claim that the rule misses nothing without lates, or which turn it misses first."""
    lost = missed(lot, rule)
    if lost is None:
        return ("rule", lot.text, rule), ()
    return ("misses", lot.text, rule, (), *lost), ()


def certify_worst(lot, rule):
    """The claim that the rule misses a turn with lates, as early as can be; None if it never misses any."""
    found = worst(lot, rule)
    if found is None:
        return None
    lates, lost = found
    return ("misses", lot.text, rule, lates, *lost), ()


def certify_plan(lot, counts):
    """The claim that there is a plan, with one, or that there is none, with all standings that one can come to."""
    check_lot(lot)
    check_counts(counts)
    check_round(lot)
    found = plan(lot, counts)
    if found is None:
        return ("no plan", lot.text, counts), layers_of(lot, counts)
    return ("plan", lot.text, counts), found


def certify_share(log):
    """The claim that the simplest share fits the log; None if no share does."""
    share = simplest(log)
    if share is None:
        return None
    return ("share", log, *share), ()
