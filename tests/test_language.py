"""The rules of the language that can be seen row by row, held against every file of the package."""

import ast
import builtins
import re
import unittest
from pathlib import Path

PACKAGE = Path(__file__).resolve().parent.parent / "tickshares"

LIBRARY = {
    "heapq": {"heappush", "heappop", "heapify", "heapreplace", "heappushpop"},
    "math": {"gcd", "lcm", "isqrt", "comb", "perm", "factorial"},
    "itertools": {"product", "combinations", "permutations"},
    "__future__": {"annotations"},
}

BUILTINS = set(
    "len range enumerate zip min max sum abs sorted reversed int str bool bytes list tuple dict set frozenset isinstance"
    " ord chr repr any all divmod Exception ValueError TypeError KeyError IndexError LookupError ZeroDivisionError"
    " ArithmeticError OverflowError RuntimeError NotImplementedError AttributeError StopIteration NotImplemented iter next"
    " map super property staticmethod classmethod".split()
)

# Doctest leaves a name `_` there.
PYTHONS_OWN = {name for name in dir(builtins) if not name.startswith("_")}

METHODS = set(
    "append clear copy count endswith extend find get index insert isalnum isalpha isdigit islower isspace isupper items"
    " join keys ljust lower lstrip partition pop remove replace reverse rfind rjust rpartition rsplit rstrip setdefault"
    " split splitlines startswith strip update upper values zfill bit_length title capitalize swapcase casefold center"
    " expandtabs removeprefix removesuffix rindex isascii isdecimal isnumeric istitle isidentifier isprintable add"
    " discard".split()
)

DUNDERS = {f"__{word}__" for word in (
    "init eq repr str len enter exit call iter lt le gt ge ne add sub mul floordiv mod pow and or xor lshift rshift radd"
    " rsub rmul rfloordiv rmod rand ror rxor rlshift rrshift iadd isub imul ifloordiv imod ipow iand ior ixor ilshift"
    " irshift neg pos invert abs bool contains getitem setitem"
).split()}

BARRED_NAMES = set(
    "register mro elements open input law version_info with_traceback add_note attrgetter breakpoint builtins compile"
    " copyright credits delattr dir eval exec exit gc getattr globals hasattr help id importlib license locals"
    " methodcaller os quit setattr type vars sys".split()
)

BARRED_WORDS = set(
    "typing typing_extensions enum Enum IntEnum StrEnum Flag IntFlag Generic Protocol ABC ABCMeta namedtuple NamedTuple"
    " TypedDict TYPE_CHECKING abstractmethod dataclass overload contextmanager Meta metaclass _wall _WallAttr".split()
)

BARRED_ATTRIBUTES = set(
    "items keys values pop update append clear extend insert remove reverse setdefault sort args encode decode hex fromhex"
    " format format_map mro".split()
)

BARRED_NODES = (
    ast.Global, ast.AsyncFunctionDef, ast.AsyncFor, ast.AsyncWith, ast.Await, ast.Div, ast.MatMult, ast.MatchClass,
    ast.MatchMapping, ast.TryStar, ast.Import,
)


def files():
    """The files of the package, whatever their names, without what Python itself leaves there."""
    return sorted(path for path in PACKAGE.rglob("*") if "__pycache__" not in path.parts and not path.is_dir())


def known_names():
    """The names of the own functions, methods and classes of the package."""
    trees = [ast.parse(path.read_text()) for path in files()]
    return {node.name for tree in trees for node in ast.walk(tree) if isinstance(node, (ast.FunctionDef, ast.ClassDef))}


def text_faults(text):
    """What is wrong with the characters and the lengths (L8, L10, L14, L17)."""
    lines = text.split("\n")
    faults = [f"line {at}: too long" for at, line in enumerate(lines, 1) if len(line) > 120]
    faults += [f"character {sign!r}" for sign in sorted(set(text)) if sign != "\n" and not " " <= sign <= "~"]
    if len(lines) > 400:
        faults.append("more than 399 lines")
    faults += [f"word {word}" for word in sorted(set(re.findall(r"\w+", text)) & BARRED_WORDS)]
    return faults


def module_faults(tree):
    """What stands at module level and must not (L2, L3, L15, L16)."""
    faults, bound = [], []
    for at, node in enumerate(tree.body):
        if isinstance(node, ast.ImportFrom):
            bound += [alias.asname or alias.name for alias in node.names]
            faults += import_faults(node)
        elif isinstance(node, ast.Assign) and len(node.targets) == 1 and isinstance(node.targets[0], ast.Name):
            bound.append(node.targets[0].id)
        elif isinstance(node, (ast.FunctionDef, ast.ClassDef)):
            bound.append(node.name)
        elif at > 0 or not isinstance(node, ast.Expr) or not isinstance(node.value, ast.Constant):
            faults.append(f"line {node.lineno}: not at module level")
    return faults + [f"{name} is bound twice" for name in sorted(set(bound)) if bound.count(name) > 1]


def import_faults(node):
    """What is wrong with an import (L2, L16)."""
    names = {alias.name for alias in node.names}
    if node.level or "*" in names:
        return [f"line {node.lineno}: import by a dot or a star"]
    if node.module in LIBRARY:
        return [f"line {node.lineno}: {name} is not to be had" for name in sorted(names - LIBRARY[node.module])]
    path = PACKAGE.parent.joinpath(*node.module.split(".")).with_suffix(".py")
    if not node.module.startswith("tickshares.") or not path.exists():
        return [f"line {node.lineno}: import from outside"]
    return [f"line {node.lineno}: {name} is not defined there" for name in sorted(names - defined_in(path))]


def defined_in(path):
    """The names that a file itself defines."""
    rows = ast.parse(path.read_text()).body
    named = {row.name for row in rows if isinstance(row, (ast.FunctionDef, ast.ClassDef))}
    return named | {row.targets[0].id for row in rows if isinstance(row, ast.Assign)}


def node_faults(tree, own):
    """What is wrong with single nodes, wherever they stand (L4 to L9, L12, L13, L17, L25, L27)."""
    faults = []
    for node in ast.walk(tree):
        where = f"line {getattr(node, 'lineno', 0)}"
        if isinstance(node, BARRED_NODES):
            faults.append(f"{where}: {node.__class__.__name__}")
        elif isinstance(node, ast.Constant) and isinstance(node.value, (float, complex)):
            faults.append(f"{where}: a float")
        elif isinstance(node, ast.Constant) and isinstance(node.value, str) and "%" in node.value:
            faults.append(f"{where}: a percent sign")
        elif isinstance(node, ast.FunctionDef):
            faults += [f"{where}: {word}" for word in function_faults(node)]
        elif isinstance(node, ast.Name):
            faults += [f"{where}: {word}" for word in name_faults(node)]
        elif isinstance(node, ast.Call) and isinstance(node.func, ast.Attribute):
            if node.func.attr not in METHODS | own:
                faults.append(f"{where}: the method {node.func.attr}")
        elif isinstance(node, ast.Set) and len(node.elts) > 2:
            faults.append(f"{where}: a set of {len(node.elts)}")
    return faults


def function_faults(node):
    """What is wrong with the head and the length of a function (L4, L5, L8, L10, L15, L17)."""
    faults = []
    if node.end_lineno - node.lineno >= 40:
        faults.append(f"{node.name} is too long")
    if node.name.startswith("__") and node.name not in DUNDERS:
        faults.append(f"the method {node.name}")
    for mark in node.decorator_list:
        if ast.unparse(mark) not in ("property", "staticmethod", "classmethod", f"{node.name}.setter"):
            faults.append(f"the decorator {ast.unparse(mark)}")
    for name in [node.name, *[parameter.arg for parameter in ast.walk(node.args) if isinstance(parameter, ast.arg)]]:
        if name in PYTHONS_OWN or name in BARRED_NAMES:
            faults.append(f"{name} is barred")
    return faults


def name_faults(node):
    """What is wrong with a name that is read or assigned (L8, L12, L15, L17)."""
    if node.id.startswith("__") or node.id in BARRED_NAMES:
        return [f"{node.id} is barred"]
    if node.id in PYTHONS_OWN and (node.id not in BUILTINS or isinstance(node.ctx, ast.Store)):
        return [f"{node.id} is a builtin"]
    if isinstance(node.ctx, ast.Load) and node.id == "_":
        return ["_ is read"]
    return []


def attribute_faults(tree, properties):
    """What is wrong with the names of attributes that are assigned (L5 Properties, L26)."""
    stored = [node for node in ast.walk(tree) if isinstance(node, ast.Attribute) and isinstance(node.ctx, ast.Store)]
    return [f"line {node.lineno}: {node.attr}" for node in stored if node.attr in BARRED_ATTRIBUTES | properties]


def known_properties():
    """The names of the properties of the package; none of them has a setter."""
    nodes = [node for path in files() for node in ast.walk(ast.parse(path.read_text())) if isinstance(node, ast.FunctionDef)]
    return {node.name for node in nodes if "property" in [ast.unparse(mark) for mark in node.decorator_list]}


def known_methods():
    """The names of the methods of the package that are no properties, and of its functions."""
    nodes = [node for path in files() for node in ast.walk(ast.parse(path.read_text())) if isinstance(node, ast.FunctionDef)]
    return {node.name for node in nodes if "property" not in [ast.unparse(mark) for mark in node.decorator_list]}


def own_errors():
    """The names of the classes of errors of the package."""
    rows = ast.parse((PACKAGE / "errors.py").read_text()).body
    return {row.name for row in rows if isinstance(row, ast.ClassDef)}


def handler_faults(tree, errors):
    """What is caught that must not be, and what is raised that is not made on the spot (L6, L19)."""
    faults = []
    for node in ast.walk(tree):
        where = f"line {getattr(node, 'lineno', 0)}"
        if isinstance(node, ast.ExceptHandler):
            caught = node.type.elts if isinstance(node.type, ast.Tuple) else [node.type]
            names = {name.id for name in caught if isinstance(name, ast.Name)}
            if len(names) < len(caught) or not names or names - errors - {"KeyError", "ZeroDivisionError"}:
                faults.append(f"{where}: caught")
        elif isinstance(node, ast.Raise) and node.exc is not None:
            made = node.exc.func if isinstance(node.exc, ast.Call) else None
            if not isinstance(made, ast.Name) or made.id not in errors | {"TypeError"}:
                faults.append(f"{where}: raised")
    return faults


def exit_faults(tree):
    """What stands in an `__exit__` and must not: anything but `if kind is (not) None` and plain assignments (L6 With)."""
    faults = []
    for node in ast.walk(tree):
        if isinstance(node, ast.FunctionDef) and node.name == "__exit__":
            if [parameter.arg for parameter in node.args.args] != ["self", "kind", "value", "trace"]:
                faults.append(f"line {node.lineno}: parameters")
            faults += [f"line {row.lineno}: in __exit__" for row in node.body if not is_exit_row(row)]
    return faults


def is_exit_row(row):
    """Whether the row may stand in an `__exit__`."""
    if isinstance(row, ast.If):
        return ast.unparse(row.test) in ("kind is None", "kind is not None") and all(map(is_exit_row, row.body + row.orelse))
    if isinstance(row, ast.Assign):
        return all([isinstance(part, (ast.Attribute, ast.Name, ast.Load, ast.Store)) for side in (*row.targets, row.value)
                    for part in ast.walk(side)])
    return isinstance(row, ast.Pass)


def sign_faults(tree):
    """What is wrong with methods that are called by signs, and beside them (L5, L17, L25)."""
    faults = []
    for node in ast.walk(tree):
        if isinstance(node, ast.ClassDef):
            methods = {row.name: row for row in node.body if isinstance(row, ast.FunctionDef)}
            if "__getitem__" in methods and "__iter__" not in methods:
                faults.append(f"{node.name} has items and says nothing of iterating")
            for name in ("__getitem__", "__contains__", "__len__", "__bool__", "__eq__", "__str__", "__repr__"):
                if name in methods and changes_something(methods[name]):
                    faults.append(f"{node.name}.{name} changes something")
        elif isinstance(node, ast.Call) and isinstance(node.func, ast.Name) and node.func.id == "sorted":
            if isinstance(node.args[0], ast.GeneratorExp):
                faults.append(f"line {node.lineno}: sorted of a generator")
        elif isinstance(node, ast.Call) and isinstance(node.func, ast.Name) and node.func.id == "reversed":
            faults.append(f"line {node.lineno}: reversed")
        elif isinstance(node, ast.Call) and isinstance(node.func, ast.Attribute) and node.func.attr in ("sort", *DUNDERS):
            faults.append(f"line {node.lineno}: {node.func.attr}")
    return faults


def changes_something(method):
    """Whether the method plainly stores anything but in local names, or calls what modifies."""
    stored = [node for node in ast.walk(method) if isinstance(node, (ast.Attribute, ast.Subscript)) and not isinstance(node.ctx, ast.Load)]
    called = [node.func.attr for node in ast.walk(method) if isinstance(node, ast.Call) and isinstance(node.func, ast.Attribute)]
    modifying = {"append", "clear", "extend", "insert", "pop", "remove", "reverse", "setdefault", "update", "go_on", "go_back"}
    return bool(stored) or bool(modifying & set(called))


def imported(path):
    """The files of the package from which a file imports."""
    nodes = [node for node in ast.walk(ast.parse(path.read_text())) if isinstance(node, ast.ImportFrom)]
    return [node.module.split(".")[-1] for node in nodes if node.module.startswith("tickshares.")]


class LanguageTest(unittest.TestCase):
    def test_the_folder_holds_nothing_else(self):
        self.assertTrue((PACKAGE / "__init__.py").exists())
        for path in files():
            self.assertRegex(path.name, r"^(__init__|__main__|[a-z][a-z0-9_]*)\.py$")
            self.assertNotIn(path.stem, BARRED_NAMES | BARRED_WORDS | PYTHONS_OWN)

    def test_every_file(self):
        own, properties = known_names(), known_properties()
        for path in files():
            with self.subTest(path=path.name):
                text = path.read_text()
                tree = ast.parse(text)
                faults = text_faults(text) + module_faults(tree) + node_faults(tree, own)
                faults += attribute_faults(tree, properties) + handler_faults(tree, own_errors()) + exit_faults(tree)
                faults += sign_faults(tree)
                self.assertEqual(faults, [])

    def test_properties_have_names_of_their_own(self):
        self.assertEqual(known_properties() & (known_methods() | METHODS), set())

    def test_no_two_files_import_from_each_other(self):
        told = {path.stem: imported(path) for path in files()}
        while told:
            free = [stem for stem in told if not set(told[stem]) & set(told)]
            self.assertNotEqual(free, [], sorted(told))
            told = {stem: told[stem] for stem in told if stem not in free}

    def test_faults_of_attributes_are_seen(self):
        self.assertLessEqual({"text", "hands", "names", "shares", "total", "span"}, known_properties())
        for text in ("self.keys = 1", "box.span = 2", "a, box.sort = 1, 2", "box.hands += 1"):
            self.assertNotEqual(attribute_faults(ast.parse(text), known_properties()), [], text)
        self.assertEqual(attribute_faults(ast.parse("self.sizes = box.span"), known_properties()), [])

    def test_faults_of_handlers_are_seen(self):
        for text in ("except ValueError:", "except:", "except (KeyError, Exception):", "except Odd:"):
            self.assertNotEqual(handler_faults(ast.parse(f"try:\n    pass\n{text}\n    pass"), own_errors()), [], text)
        for text in ("raise error", "raise ValueError(1)", "raise self.wrong()", "raise Dead"):
            self.assertNotEqual(handler_faults(ast.parse(text), own_errors()), [], text)
        text = "try:\n    pass\nexcept (Dead, KeyError):\n    raise\nraise Alone()"
        self.assertEqual(handler_faults(ast.parse(text), own_errors()), [])

    def test_faults_of_exits_are_seen(self):
        head = "def __exit__(self, kind, value, trace):\n    "
        for text in (head + "self.undo()", head + "self.a = self.b[0]", head + "if value is None:\n        pass",
                     head + "return True", head + "self.a += 1", "def __exit__(self, a, b, c):\n    pass"):
            self.assertNotEqual(exit_faults(ast.parse(text)), [], text)
        self.assertEqual(exit_faults(ast.parse(head + "if kind is not None:\n        self.a.b = self.c.d")), [])

    def test_faults_of_signs_are_seen(self):
        head = "class A:\n    def "
        for text in (head + "__getitem__(self, at):\n        return 1", head + "__len__(self):\n        self.a = 1",
                     head + "__contains__(self, x):\n        self.a.append(x)", head + "__bool__(self):\n        self.a[0] += 1",
                     "def f(xs):\n    return sorted(x for x in xs)", "def f(xs):\n    xs.sort()", "def f(a):\n    return a.__len__()"):
            self.assertNotEqual(sign_faults(ast.parse(text)), [], text)

    def test_faults_are_seen(self):
        for text in ("a = 1.5", "def f():\n    return 1 / 2", "import sys", "from os import path", "from . import lots",
                     "from tickshares.lots import *", "from tickshares.turns import Lot", "a = 1\na = 2", "print(1)",
                     "def f():\n    return getattr", "def f(id):\n    pass", "def f():\n    max = 1", "a = '100%'",
                     "def f(xs):\n    return xs.format(1)", "def f(_):\n    return _", "async def f():\n    pass",
                     "@cache\ndef f():\n    pass", "class A:\n    def __hash__(self):\n        return 1", "a, b = 1, 2",
                     "def f():\n    x = {1, 2, 3}", "def f():\n    __a = 1", "def f():\n" + "    pass\n" * 40,
                     "def f():\n    print(1)", "a = '\u00e4'", "a = 1  # " + "x" * 120, "\n" * 400, "class Meta:\n    pass"):
            with self.subTest(text=text):
                tree = ast.parse(text)
                self.assertNotEqual(text_faults(text) + module_faults(tree) + node_faults(tree, set()), [])
