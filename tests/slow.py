"""The words of the document, followed slowly: what the tests hold the program against."""

from fractions import Fraction
from functools import cache, cmp_to_key
from itertools import combinations, product
from math import ceil, floor
from operator import add

from tickshares.lots import Lot


def lot_of(hands, *shares):
    """A lot with so many hands and works a, b and so on with these shares."""
    works = [f"work {name} {top}/{bottom}" for name, (top, bottom) in zip("abcdef", shares)]
    return Lot("\n".join([f"hands {hands}", *works]))


def crews_of(lot):
    """All ascending tuples of indexes of works that may get hands in a tick."""
    many = len(lot.shares)
    return [crew for size in range(min(many, lot.hands) + 1) for crew in combinations(range(many), size)]


def is_kept(share, moment, number):
    """Whether a work with so many ticks is kept at the moment."""
    top, bottom = share
    return abs(number * bottom - moment * top) < bottom


def all_kept(lot, moment, had):
    """Whether all works are kept that have had so many ticks."""
    return all(is_kept(share, moment, number) for share, number in zip(lot.shares, had))


def with_crew(had, crew):
    """The numbers of ticks when these works had one more."""
    return tuple([number + (at in crew) for at, number in enumerate(had)])


def standings_by_words(lot, moment):
    """The standings at the moment, ascending, by a look at the numbers around the shares."""
    numbers = []
    for share in lot.shares:
        near = moment * share[0] // share[1]
        numbers.append([number for number in range(max(0, near - 2), near + 4) if is_kept(share, moment, number)])
    return list(product(*numbers))


def alive_by_words(lot):
    """For each moment of the first round the set of the standings from which one can go on for ever.

    Those from which no tick leads to one that is left are taken away until nothing changes. What is at the end of the
    round is what is at its start, with the ticks of the round on top.
    """
    whole = tuple([top * lot.span // bottom for top, bottom in lot.shares])
    left = [set(standings_by_words(lot, moment)) for moment in range(lot.span)]
    steps = [with_crew((0,) * len(whole), crew) for crew in crews_of(lot)]
    while True:
        size = sum([len(there) for there in left])
        for moment in range(lot.span - 1, -1, -1):
            after = left[moment + 1] if moment + 1 < lot.span else {with_whole(had, whole, 1) for had in left[0]}
            left[moment] = {had for had in left[moment] if any(tuple(map(add, had, step)) in after for step in steps)}
        if size == sum([len(there) for there in left]):
            return left


def with_whole(had, whole, rounds):
    """The numbers of ticks so many rounds later."""
    return tuple([number + rounds * more for number, more in zip(had, whole)])


def choices_by_words(lot, living, moment, had):
    """The crews that lead from the standing at a moment of the first round to one that is alive, ascending."""
    whole = tuple([top * lot.span // bottom for top, bottom in lot.shares])
    after = living[moment + 1] if moment + 1 < lot.span else {with_whole(had, whole, 1) for had in living[0]}
    return sorted([crew for crew in crews_of(lot) if with_crew(had, crew) in after])


def tables_by_words(lot):
    """All right tables, ascending, by a search tick by tick."""
    found = [((), (0,) * len(lot.shares))]
    for moment in range(1, lot.span + 1):
        more = [((*ticks, crew), with_crew(had, crew)) for ticks, had in found for crew in crews_of(lot)]
        found = [(ticks, had) for ticks, had in more if all_kept(lot, moment, had)]
    return sorted([ticks for ticks, _ in found])


def starts_of(ticks):
    """How many starts there are in a table."""
    return sum([len(set(crew) - set(ticks[at - 1])) for at, crew in enumerate(ticks)])


@cache
def begin_by_words(share, turn):
    return floor((turn - 1) / Fraction(*share))


@cache
def border_by_words(share, turn):
    return ceil(turn / Fraction(*share))


@cache
def overlaps_by_words(share, turn):
    return border_by_words(share, turn) > begin_by_words(share, turn + 1)


@cache
def group_by_words(share, turn):
    """The group border: moment after moment is asked for a turn that makes it one."""
    if Fraction(*share) < Fraction(1, 2):
        return 0
    moment = border_by_words(share, turn)
    while True:
        # Turns have different borders, so that no other one has its border at this moment or at the next.
        for other in range(max(1, turn - 2), turn + moment - border_by_words(share, turn) + 3):
            last = border_by_words(share, other)
            if last == moment and not overlaps_by_words(share, other):
                return moment
            if last == moment + 1 and last - begin_by_words(share, other) == 3:
                return moment
        moment += 1


class Stand:
    """A work in a tick: its next turn with its begin and its borders, as lates change them."""

    def __init__(self, lot, at, had, moment, lates=()):
        share = lot.shares[at]
        turn = had + 1
        late = sum([by for name, first, by in lates if name == lot.names[at] and first <= turn])
        group = group_by_words(share, turn)
        self.at = at
        self.turn = turn
        self.begin = begin_by_words(share, turn) + late
        self.border = border_by_words(share, turn) + late
        self.overlaps = overlaps_by_words(share, turn)
        self.group = group + late if group > 0 else 0
        self.lag = (moment - late + 1) * Fraction(*share) - had


def first_of(rule, one, other):
    """Below 0 if the rule puts the one work ahead of the other, else above 0."""
    if rule == "behind":
        if one.lag != other.lag:
            return -1 if one.lag > other.lag else 1
        return one.at - other.at
    if one.border != other.border:
        return one.border - other.border
    if rule != "nearest" and one.overlaps != other.overlaps:
        return -1 if one.overlaps else 1
    if rule == "keen" and one.overlaps and one.group != other.group:
        return other.group - one.group
    return one.at - other.at


def order_by_words(lot, rule, moment, had, lates=()):
    """The works that are due, as the rule puts them."""
    stands = [Stand(lot, at, number, moment, lates) for at, number in enumerate(had)]
    due = [stand for stand in stands if stand.begin <= moment]
    return tuple([stand.at for stand in sorted(due, key=cmp_to_key(lambda one, other: first_of(rule, one, other)))])


def lost_by_words(lot, moment, had, lates=()):
    """The triple of the earliest work that misses a turn at the moment, None if none does."""
    for at, number in enumerate(had):
        stand = Stand(lot, at, number, moment, lates)
        if stand.border <= moment:
            return moment, lot.names[at], stand.turn
    return None


def play_by_words(lot, rule, ticks, lates=()):
    """Who gets hands up to so many ticks, and the first missed turn."""
    had = (0,) * len(lot.shares)
    told = []
    for moment in range(ticks):
        crew = order_by_words(lot, rule, moment, had, lates)[:lot.hands]
        told.append(tuple(sorted(crew)))
        had = with_crew(had, crew)
        lost = lost_by_words(lot, moment + 1, had, lates)
        if lost is not None:
            return tuple(told), lost
    return tuple(told), None


def worst_by_words(lot, rule):
    """The lowest moment at which the rule misses a turn with any lates, None if it never misses any.

    A work is (had, late, begun): the ticks that it had, by how many ticks its next turn is late at least, and whether
    that is settled, the turn having begun. What was there at an earlier moment, but for whole rounds, is left out.
    """
    layer, seen, moment = [((0, 0, False),) * len(lot.shares)], set(), 0
    while layer:
        after = []
        for works in layer:
            for settled in product(*[settled_by_words(lot, at, work, moment) for at, work in enumerate(works)]):
                key = tuple([key_by_words(lot, at, work, moment) for at, work in enumerate(settled)])
                if key not in seen:
                    seen.add(key)
                    after.append(settled)
        moment += 1
        layer = [tick_by_words(lot, rule, works, moment - 1) for works in after]
        for works in layer:
            had = tuple([number for number, _, _ in works])
            lates = [(name, 1, late) for name, (_, late, _) in zip(lot.names, works)]
            if lost_by_words(lot, moment, had, lates) is not None:
                return moment
    return None


def settled_by_words(lot, at, work, moment):
    """What can be of the work at the moment: its next turn begins then or has begun before, or it is later than that."""
    had, late, begun = work
    begin = begin_by_words(lot.shares[at], had + 1)
    if begun or begin + late > moment:
        return [work]
    return [(had, more, True) for more in range(late, moment - begin + 1)] + [(had, moment - begin + 1, False)]


def key_by_words(lot, at, work, moment):
    """The work as it would be in its first round, by a clock that is late as the work is."""
    had, late, begun = work
    top, bottom = lot.shares[at]
    return had % top, moment - late - had // top * bottom, begun


def tick_by_words(lot, rule, works, moment):
    """The works behind the tick."""
    had = tuple([number for number, _, _ in works])
    lates = [(name, 1, late) for name, (_, late, _) in zip(lot.names, works)]
    crew = order_by_words(lot, rule, moment, had, lates)[:lot.hands]
    return tuple([
        (number + 1, late, False) if at in crew else (number, late, begun) for at, (number, late, begun) in enumerate(works)
    ])


def crews_up_to(many, hands):
    """All ascending tuples of indexes of so many works, and of no more works than hands."""
    return [crew for size in range(min(many, hands) + 1) for crew in combinations(range(many), size)]


def layers_by_words(lot, counts):
    """For each moment the set of the standings that come of any way to give the hands, up to the first one without any."""
    layers = [{(0,) * len(lot.shares)}]
    for moment, hands in enumerate(counts, 1):
        crews = crews_up_to(len(lot.shares), hands)
        layers.append({had for before in layers[-1] for had in [with_crew(before, crew) for crew in crews]
                       if all_kept(lot, moment, had)})
        if not layers[-1]:
            break
    return layers


def longest_by_words(lot, counts):
    """The greatest number of first counts for which not all ways to give the hands lose a work."""
    return len([layer for layer in layers_by_words(lot, counts) if layer]) - 1


def is_plan_by_words(lot, counts, value):
    """Whether the value is a plan for these counts."""
    if type(value) is not tuple or len(value) != len(counts):
        return False
    had = (0,) * len(lot.shares)
    for moment, crew in enumerate(value):
        if type(crew) is not tuple or crew not in crews_up_to(len(had), counts[moment]):
            return False
        had = with_crew(had, crew)
        if not all_kept(lot, moment + 1, had):
            return False
    return True
