"""What the interface lists exists under its name, in its file, with parameters that go by position and by name."""

import ast
import importlib
import inspect
import unittest
from pathlib import Path

PACKAGE = Path(__file__).resolve().parent.parent / "tickshares"

FUNCTIONS = {
    "lots": {"fits": ("lot",)},
    "turns": {
        "begin": ("lot", "name", "turn"),
        "border": ("lot", "name", "turn"),
        "overlaps": ("lot", "name", "turn"),
        "group_border": ("lot", "name", "turn"),
        "turns_up_to": ("lot", "name", "moment"),
    },
    "standings": {
        "standings": ("lot", "moment"),
        "alive": ("lot", "moment"),
        "choices": ("lot", "moment", "standing"),
    },
    "tables": {
        "is_table": ("lot", "value"),
        "table": ("lot",),
        "count_tables": ("lot",),
        "nth_table": ("lot", "number"),
        "rank_of": ("lot", "value"),
        "fewest_starts": ("lot",),
        "calm_table": ("lot",),
    },
    "rules": {
        "order_by": ("lot", "rule", "moment", "standing"),
        "table_by": ("lot", "rule"),
        "missed": ("lot", "rule"),
    },
    "lates": {
        "run": ("lot", "rule", "lates", "ticks"),
        "worst": ("lot", "rule"),
    },
    "plans": {
        "plan": ("lot", "counts"),
        "longest": ("lot", "counts"),
        "least_more": ("lot", "counts"),
    },
    "seen": {
        "bounds": ("log",),
        "simplest": ("log",),
        "shares_to": ("log", "number"),
    },
    "forms": {"fitting": ("forms", "number")},
    "checker": {"accepts": ("claim", "certificate")},
    "certificates": {
        "certify": ("lot",),
        "certify_rule": ("lot", "rule"),
        "certify_worst": ("lot", "rule"),
        "certify_plan": ("lot", "counts"),
        "certify_share": ("log",),
    },
}

METHODS = {
    "lots": {
        "Lot": {
            "__init__": ("text",),
            "put": ("name", "share"),
            "without": ("name",),
            "with_hands": ("number",),
            "__eq__": ("other",),
            "__str__": (),
            "__repr__": (),
        },
    },
    "yards": {
        "Yard": {
            "__init__": ("lot",),
            "tick": ("names",),
            "undo": (),
            "lets": ("names",),
            "trial": (),
            "tried": ("action",),
        },
    },
    "desks": {
        "Desk": {
            "__init__": (),
            "remove": ("name",),
            "promise": ("promise",),
            "lift": ("index",),
            "undo": (),
            "trial": (),
            "tried": ("action",),
        },
    },
    "console": {"Console": {"__init__": (), "run": ("command",)}},
}

# Methods that are called by signs; what their parameters are called is free.
SIGNS = {"desks": {"Desk": ("__setitem__", "__getitem__", "__contains__", "__len__", "__bool__")}}

PROPERTIES = {
    "lots": {"Lot": ("text", "hands", "names", "shares", "total", "span")},
    "yards": {"Yard": ("moment", "standing", "changes")},
    "desks": {"Desk": ("titles", "promises", "changes")},
    "console": {"Console": ("desk",)},
}


def defined(rows, kind):
    """What is defined in these rows, by its name."""
    return {row.name: row for row in rows if isinstance(row, kind)}


def parameters(action):
    """The names of the parameters, all of which go by position and by name and have no default value."""
    told = inspect.signature(action).parameters.values()
    for parameter in told:
        assert parameter.kind is inspect.Parameter.POSITIONAL_OR_KEYWORD, parameter
        assert parameter.default is inspect.Parameter.empty, parameter
    return tuple([parameter.name for parameter in told])


class InterfaceTest(unittest.TestCase):
    def rows(self, module):
        return ast.parse((PACKAGE / f"{module}.py").read_text()).body

    def test_functions(self):
        for module, functions in FUNCTIONS.items():
            here = defined(self.rows(module), ast.FunctionDef)
            for name, wanted in functions.items():
                self.assertIn(name, here)
                action = getattr(importlib.import_module(f"tickshares.{module}"), name)
                self.assertEqual(parameters(action), wanted)

    def test_methods(self):
        for module, classes in METHODS.items():
            here = defined(self.rows(module), ast.ClassDef)
            for name, methods in classes.items():
                told = getattr(importlib.import_module(f"tickshares.{module}"), name)
                for method, wanted in methods.items():
                    self.assertIn(method, defined(here[name].body, ast.FunctionDef))
                    self.assertEqual(parameters(vars(told)[method])[1:], wanted)

    def test_signs(self):
        for module, classes in SIGNS.items():
            here = defined(self.rows(module), ast.ClassDef)
            for name, methods in classes.items():
                self.assertLessEqual(set(methods), set(defined(here[name].body, ast.FunctionDef)))

    def test_properties(self):
        for module, classes in PROPERTIES.items():
            for name, properties in classes.items():
                told = getattr(importlib.import_module(f"tickshares.{module}"), name)
                for listed in properties:
                    self.assertIsInstance(vars(told)[listed], property)
