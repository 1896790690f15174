"""The examples of the document, as they stand there, and those of README.md."""

import doctest
import unittest
from pathlib import Path

README = Path(__file__).resolve().parent.parent / "README.md"

EXAMPLES = r'''
>>> from tickshares.lots import Lot, fits
>>> three = Lot("hands 2\nwork ann 2/3\nwork bob 1/2\nwork cat 5/6")
>>> [three.names, three.shares, three.total, three.span, fits(three), fits(three.with_hands(1)), three.without("bob").text, repr(three)]
[('ann', 'bob', 'cat'), ((2, 3), (1, 2), (5, 6)), (2, 1), 6, True, False, 'hands 2\nwork ann 2/3\nwork cat 5/6', 'Lot of 3 works, 2 hands']

>>> from tickshares.turns import begin, border, group_border, overlaps, turns_up_to
>>> [begin(three, "cat", 3), border(three, "cat", 3), overlaps(three, "cat", 3), group_border(three, "cat", 3), overlaps(three, "ann", 2), group_border(three, "ann", 1), border(three, "ann", 10 ** 30), turns_up_to(three, "ann", 4)]
[2, 4, True, 6, False, 3, 1500000000000000000000000000000, (2, 3)]
>>> from tickshares.standings import alive, choices, standings
>>> even = Lot("hands 1\nwork a 1/2\nwork b 1/2")
>>> [standings(even, 1), alive(even, 1), choices(even, 0, (0, 0)), alive(even, 10 ** 20), choices(three, 0, (0, 0, 0))]
[((0, 0), (0, 1), (1, 0), (1, 1)), ((0, 1), (1, 0), (1, 1)), ((0,), (1,)), ((50000000000000000000, 50000000000000000000),), ((0, 1), (0, 2), (1, 2))]

>>> from tickshares.tables import calm_table, count_tables, fewest_starts, is_table, nth_table, rank_of, table
>>> [count_tables(even), nth_table(even, 1), rank_of(even, ((0,), (1,))), count_tables(even.with_hands(2)), fewest_starts(even), table(three.with_hands(1))]
[2, ((1,), (0,)), 0, 4, 2, None]
>>> single = Lot("hands 1\nwork a 2/3")
>>> [[nth_table(single, k) for k in range(count_tables(single))], fewest_starts(single), is_table(three, ((0, 2), (1, 2), (0, 2), (0, 1), (0, 2), (1, 2)))]
[[((), (0,), (0,)), ((0,), (), (0,)), ((0,), (0,), ())], 1, True]

>>> from tickshares.rules import missed, order_by, table_by
>>> [order_by(three, "keen", 0, (0, 0, 0)), order_by(three, "nearest", 0, (0, 0, 0)), order_by(three, "behind", 2, (1, 1, 2)), order_by(three, "keen", 1, (1, 0, 1))]
[(2, 0, 1), (0, 1, 2), (0, 1, 2), (1, 2, 0)]
>>> [table_by(three, "keen"), table_by(three, "nearest"), missed(three, "behind"), missed(Lot("hands 1\nwork ann 2/3\nwork bob 1/2"), "nearest")]
[((0, 2), (1, 2), (0, 2), (0, 1), (0, 2), (1, 2)), ((0, 1), (0, 2), (1, 2), (0, 2), (0, 2), (1, 2)), None, (6, 'bob', 3)]

>>> from tickshares.lates import run, worst
>>> [run(even, "nearest", (("a", 1, 1),), 4), run(even, "nearest", (("a", 1, 1), ("b", 2, 2)), 5), worst(even, "nearest")]
[(((1,), (0,), (1,), (0,)), None), (((1,), (0,), (), (0,), (1,)), None), None]
>>> crowd = Lot("hands 1\nwork a 1/2\nwork b 2/3")
>>> [run(crowd, "nearest", (), 9), worst(crowd, "nearest")[1][0]]
[(((0,), (1,), (1,), (0,), (1,), (0,)), (6, 'b', 4)), 6]

>>> from tickshares.plans import least_more, longest, plan
>>> [plan(even, (0, 2)), plan(even, (0, 1)), longest(even, (0, 1)), least_more(even, (0, 1)), plan(single, (1, 0, 1))]
[((), (0, 1)), None, 1, 1, ((0,), (), (0,))]

>>> from tickshares.seen import bounds, shares_to, simplest
>>> [bounds((1, 0, 1)), simplest((1, 0, 1)), shares_to((1, 0, 1), 4), bounds((0, 0, 1, 1, 1)), bounds((0, 0, 1, 1, 1, 1)), bounds((1,)), simplest((1, 1, 1))]
[((1, 3), (1, 1)), (1, 2), ((1, 2), (2, 3), (3, 4)), ((2, 5), (1, 2)), None, ((0, 1), (2, 1)), (1, 1)]

>>> from tickshares.forms import fitting
>>> [fitting((((1, 1), (1, 3)),) * 3, 2), fitting((((1, 1), (1, 3)), ((0, 1), (1, 1))), 1), fitting((((1, 0), (0, 4)),), 1)]
[((0, 3),), ((1, None),), ((1, 4),)]

>>> from tickshares.yards import Yard
>>> yard = Yard(even)
>>> [yard.tick(("b",)), yard.lets(("b",)), yard.lets(("a",)), yard.standing, yard.tick(("a",)), yard.moment, yard.undo(), yard.changes]
[None, False, True, (0, 1), None, 2, None, 1]
>>> yard.tick(())
raises Dead(given=())

>>> from tickshares.console import Console
>>> console = Console()
>>> [console.run("put x\nhands 1\nwork ann 2/3"), console.run("tables x"), console.run("table x nearest"), console.run("promise fits x"), console.run("total x")]
['ok', '3', 'ann ann -', 'ok', '2/3']
>>> console.run("work x bob 1/2")
raises Broken(index=0, shown=(7, 6))

>>> from tickshares.certificates import certify, certify_plan, certify_rule, certify_share
>>> from tickshares.checker import accepts
>>> [certify(three.with_hands(1))[0][0], certify_rule(Lot("hands 1\nwork ann 2/3\nwork bob 1/2"), "nearest")[0][2:], certify_plan(even, (0, 1))[0][0], certify_share((1, 0, 1))[0][2:]]
['over', ('nearest', (), 6, 'bob', 3), 'no plan', (1, 2)]
>>> [accepts(("no plan", str(even), (0, 1)), (((0, 0),), ((0, 0),), ())), accepts(("no plan", str(even), (1, 1)), (((0, 0),), ((0, 0),), ())), accepts(("fits", str(even)), ((0,), (1,))), accepts(("share", (1, 0, 1), 1, 3), ())]
[True, False, True, False]
'''


def shown(action):
    """Shows what the call returns, or what it raises in the way of the document."""
    try:
        told = action()
    except Exception as error:
        attributes = ", ".join([f"{name}={value!r}" for name, value in vars(error).items()])
        print(f"raises {type(error).__name__}({attributes})")
    else:
        print(repr(told))


def with_errors_shown(example):
    """The example, called by `shown` if the document shows what it raises."""
    if example.want.startswith("raises "):
        return doctest.Example(f"shown(lambda: {example.source.strip()})", example.want)
    return example


class ExamplesTest(unittest.TestCase):
    def hold(self, text, many):
        """The text has so many examples, and each of them shows what it is told to show."""
        examples = doctest.DocTestParser().get_doctest(text, {"shown": shown}, "examples", None, 0)
        examples.examples = [with_errors_shown(example) for example in examples.examples]
        told = []
        runner = doctest.DocTestRunner(verbose=False)
        runner.run(examples, out=told.append)
        self.assertEqual("".join(told), "")
        self.assertEqual(runner.tries, many)

    def test_the_document(self):
        self.hold(EXAMPLES, 37)

    def test_the_readme(self):
        self.hold(README.read_text(), 52)
