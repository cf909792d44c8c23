"""The package keeps to the part of Python that is laid down for it, as far as a walk over its text can tell."""

import ast
import builtins
import pathlib
import re
import unittest

PACKAGE = pathlib.Path(__file__).resolve().parent.parent / "pilehall"

OWN_NAMES = set(
    "len range enumerate zip min max sum abs sorted reversed int str bool list tuple dict set frozenset isinstance"
    " ord repr any all divmod Exception ValueError TypeError KeyError IndexError LookupError ZeroDivisionError"
    " ArithmeticError OverflowError RuntimeError NotImplementedError AttributeError StopIteration".split()
)
OWN_METHODS = set(
    "append clear copy count endswith extend find get index insert isalnum isalpha isdigit islower isspace isupper"
    " items join keys ljust lower lstrip partition pop remove replace reverse rfind rjust rpartition rsplit rstrip"
    " setdefault split splitlines startswith strip update upper values zfill bit_length".split()
)
WORDS_LEFT_OUT = re.compile(
    r"\b(type|typing|typing_extensions|enum|Enum|IntEnum|StrEnum|Flag|IntFlag|Generic|Protocol|ABC|ABCMeta"
    r"|namedtuple|NamedTuple|TypedDict|TYPE_CHECKING|abstractmethod)\b"
    r"|dataclass|overload|contextmanager"
)
# These may stand in texts and remarks, but neither as a name nor behind a dot.
NAMES_LEFT_OUT = set("register mro elements open input version_info with_traceback add_note".split())
DOUBLE_UNDERSCORES = ("__init__", "__eq__", "__repr__", "__str__", "__len__")
# What Python's own values have, and so an object of the package does not, but where the rules let it.
TAKEN_NAMES = {name for own in (str, int, list, tuple, dict, set, bytes) for name in dir(own)}
FREE_FOR_METHODS = OWN_METHODS | {"add", "discard", "__init__"}
FREE_FOR_VALUES = set("count index title find get join lower upper split strip copy add".split())
NODES_LEFT_OUT = (
    ast.With, ast.Match, ast.Delete, ast.Global, ast.Nonlocal, ast.Assert, ast.Yield, ast.YieldFrom, ast.Await,
    ast.AsyncFunctionDef, ast.AsyncFor, ast.AsyncWith, ast.SetComp, ast.DictComp, ast.GeneratorExp, ast.NamedExpr,
    ast.Starred, ast.Div, ast.Import, ast.AnnAssign,
)


def defined_methods(tree):
    return {
        part.name
        for kind in ast.walk(tree) if isinstance(kind, ast.ClassDef)
        for part in kind.body if isinstance(part, ast.FunctionDef)
    }


def stored_values(tree):
    return {
        node.attr for node in ast.walk(tree) if isinstance(node, ast.Attribute) and isinstance(node.ctx, ast.Store)
    }


def faults_of_classes(methods, values):
    """The whole package's methods and values together: none is both, and none has a name of Python's own."""
    for name in sorted(methods & values):
        yield 0, "L18 method and value " + name
    for name in sorted(methods & TAKEN_NAMES - FREE_FOR_METHODS):
        yield 0, "L26 method " + name
    for name in sorted(values & TAKEN_NAMES - FREE_FOR_VALUES):
        yield 0, "L26 value " + name


def bound_names(tree):
    names = set()
    for node in ast.walk(tree):
        if isinstance(node, (ast.FunctionDef, ast.ClassDef)):
            names.add(node.name)
        elif isinstance(node, ast.arg):
            names.add(node.arg)
        elif isinstance(node, ast.Name) and isinstance(node.ctx, ast.Store):
            names.add(node.id)
        elif isinstance(node, ast.ImportFrom):
            names.update(alias.asname or alias.name for alias in node.names)
        elif isinstance(node, ast.ExceptHandler) and node.name:
            names.add(node.name)
    return names


def faults_of_text(text):
    rows = text.split("\n")
    if len(rows) > 401:
        yield 0, "L10 file too long"
    for number, row in enumerate(rows, 1):
        if len(row) > 120:
            yield number, "L10 row too long"
        if re.search(r"[^ -~]", row):
            yield number, "L14 sign"
        if WORDS_LEFT_OUT.search(row):
            yield number, "L17 word"


def fault_of_node(node, names, methods, values):
    if isinstance(node, NODES_LEFT_OUT):
        return "L2, L6 or L7 form"
    if isinstance(node, ast.ImportFrom) and (node.level or not (node.module + ".").startswith("pilehall.")):
        return "L2 import"
    if isinstance(node, ast.Constant) and isinstance(node.value, (float, complex, bytes)):
        return "L7 value"
    if isinstance(node, ast.Assign) and (len(node.targets) > 1 or isinstance(node.targets[0], (ast.Tuple, ast.List))):
        return "L6 targets"
    if isinstance(node, (ast.For, ast.While)) and node.orelse:
        return "L6 else behind a loop"
    if isinstance(node, ast.ListComp) and (len(node.generators) > 1 or len(node.generators[0].ifs) > 1):
        return "L7 comprehension"
    if isinstance(node, ast.Name) and isinstance(node.ctx, ast.Load) and node.id not in names | OWN_NAMES:
        return "L8 name"
    if isinstance(node, ast.FunctionDef):
        if node.decorator_list or node.args.vararg or node.args.kwarg or node.args.kwonlyargs:
            return "L4 function"
        if node.end_lineno - node.lineno >= 40:
            return "L10 function too long"
    if isinstance(node, ast.Compare) and any(isinstance(sign, (ast.Is, ast.IsNot)) for sign in node.ops):
        sides = [node.left] + node.comparators
        if not any(isinstance(side, ast.Constant) and side.value in (None, True, False) for side in sides):
            return "L20 is"
    if isinstance(node, ast.Call) and isinstance(node.func, ast.Attribute):
        if node.func.attr not in OWN_METHODS | methods:
            return "L25 method"
    elif isinstance(node, ast.Attribute) and node.attr not in OWN_METHODS | methods | values:
        return "L8 value"
    return None


def faults(text, package=()):
    """The faults of a file's text, among the trees of a package's other files."""
    found = list(faults_of_text(text))
    tree = ast.parse(text)
    names = bound_names(tree)
    methods = set().union(*[defined_methods(each) for each in [tree, *package]])
    values = set().union(*[stored_values(each) for each in [tree, *package]])
    found.extend(faults_of_classes(methods, values))
    for name in sorted(names | methods | values):
        if name in NAMES_LEFT_OUT or (name.startswith("_") and name not in DOUBLE_UNDERSCORES):
            found.append((0, "L12 or L17 name " + name))
    for name in sorted(names & set(dir(builtins))):
        found.append((0, "L15 name " + name))
    for node in ast.walk(tree):
        fault = fault_of_node(node, names, methods, values)
        if fault:
            found.append((getattr(node, "lineno", 0), fault))
    return found


class Language(unittest.TestCase):
    def test_files(self):
        lying_there = sorted(path.name for path in PACKAGE.iterdir() if path.name != "__pycache__")
        self.assertIn("__init__.py", lying_there)
        for name in lying_there:
            self.assertRegex(name, r"\A(__init__|__main__|[a-z][a-z0-9_]*)\.py\Z")

    def test_the_package_has_no_fault(self):
        texts = {path.name: path.read_text(encoding="utf-8") for path in sorted(PACKAGE.glob("*.py"))}
        package = [ast.parse(text) for text in texts.values()]
        for name, text in texts.items():
            with self.subTest(name):
                self.assertEqual(faults(text, package), [])

    def test_faults_are_found(self):
        bad = [
            "import os", "from os import path", "x = 1 / 2", "x = 0.5", "a = b = 1", "a, b = 1, 2", "x = print",
            "def f(*more):\n    return more", "def f(x):\n    return x is 5", "xs = [1]\nxs.sort()", "# any type",
            "def f(len):\n    return len", "def f(_x):\n    return 1", "x = 1" + " " * 120, "x = 1\t",
            "def f():\n" + "    pass\n" * 40, "x = [a + b for a in (1, 2) for b in (3, 4)]",
            "for x in (1, 2):\n    pass\nelse:\n    pass", "def open():\n    return 1", "def f(id):\n    return id",
            "class A:\n    def open(self):\n        return 1", "class A:\n    def sort(self):\n        return 1",
            "class A:\n    def __init__(self):\n        self.items = 1", "def f(a):\n    return a.real",
            "class A:\n    def go(self):\n        self.go = 1",
        ]
        for text in bad:
            with self.subTest(text):
                self.assertNotEqual(faults(text), [])

    def test_words_of_deeds_may_stand_as_texts(self):
        self.assertEqual(faults("word = \"open\"\n"), [])


if __name__ == "__main__":
    unittest.main()
