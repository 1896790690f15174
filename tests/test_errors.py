import unittest

from tests.support import ODD_VALUES
from tickshares import errors

BASES = {"WrongValue": ValueError, "WrongName": LookupError, "NoAnswer": ArithmeticError}

LISTED = {
    "WrongValue": {
        **{name: ("given",) for name in (
            "InvalidText", "InvalidNumber", "InvalidName", "InvalidShare", "InvalidRule", "InvalidStanding",
            "InvalidTable", "InvalidIndex", "InvalidPromise", "InvalidCommand", "NotALot",
        )},
        **{name: ("index",) for name in (
            "InvalidLates", "InvalidCounts", "InvalidLog", "InvalidForms", "InvalidNames",
        )},
    },
    "WrongName": {"UnknownName": ("given",), "InUse": ("index",)},
    "NoAnswer": {
        "TooMany": ("limit",), "Alone": (), "Dead": ("given",), "NothingToUndo": (), "Broken": ("index", "shown"),
    },
}

VALUES = (*ODD_VALUES, 0, 1, -7, 10 ** 60, "", "ann", "two\nrows", (1, (2, [3])), errors, errors.Alone())


def listed():
    """All listed classes, with the name of the base class and the names of the attributes."""
    for base, classes in LISTED.items():
        for name, attributes in classes.items():
            yield base, getattr(errors, name), attributes


class ErrorsTest(unittest.TestCase):
    def test_there_are_all_classes_and_no_more(self):
        here = {name for name, value in vars(errors).items() if isinstance(value, type)}
        self.assertEqual(here, {*BASES, *[name for classes in LISTED.values() for name in classes]})

    def test_bases(self):
        for name, builtin in BASES.items():
            base = getattr(errors, name)
            self.assertEqual(base.__bases__, (builtin,))
            self.assertEqual(vars(base()), {})
            self.assertRaises(TypeError, base, 1)

    def test_each_class_belongs_to_its_base_alone(self):
        for base, error, _ in listed():
            with self.subTest(error=error.__name__):
                self.assertEqual(error.__mro__[:3], (error, getattr(errors, base), BASES[base]))
                self.assertEqual(error.__mro__[3:], BASES[base].__mro__[1:])

    def test_made_by_position(self):
        for _, error, attributes in listed():
            for value in VALUES:
                with self.subTest(error=error.__name__, value=repr(value)):
                    values = [value, [value]][:len(attributes)]
                    self.keeps(error(*values), attributes, values)

    def test_made_by_name(self):
        for _, error, attributes in listed():
            for value in VALUES:
                with self.subTest(error=error.__name__, value=repr(value)):
                    values = [value, [value]][:len(attributes)]
                    named = list(zip(attributes, values))
                    self.keeps(error(**dict(named[::-1])), attributes, values)

    def test_made_with_too_many_or_too_few(self):
        for _, error, attributes in listed():
            with self.subTest(error=error.__name__):
                self.assertRaises(TypeError, error, *range(len(attributes) + 1))
                self.assertRaises(TypeError, error, other=1)
                if attributes:
                    self.assertRaises(TypeError, error)

    def test_raised_and_caught(self):
        for base, error, attributes in listed():
            with self.subTest(error=error.__name__):
                for wanted in (error, getattr(errors, base), BASES[base]):
                    with self.assertRaises(wanted) as caught:
                        raise error(*attributes)
                    self.keeps(caught.exception, attributes, list(attributes))

    def keeps(self, made, attributes, values):
        """The error has these very values, and nothing else."""
        self.assertEqual(list(vars(made)), list(attributes))
        for name, value in zip(attributes, values):
            self.assertIs(getattr(made, name), value)
