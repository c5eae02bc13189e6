"""The package keeps to the small part of Python in ../shared/LANGUAGE.md.

This looks for what is easily written by habit; the rules themselves say more.
"""

import ast
import re
import unittest
from pathlib import Path

PACKAGE = Path(__file__).resolve().parent.parent / "sharepress"

ALLOWED_NODES = """
Module FunctionDef ClassDef Return Assign AugAssign For While If Raise Try Expr Pass Break Continue
ImportFrom alias arguments arg ExceptHandler Lambda BoolOp BinOp UnaryOp IfExp Dict Set List Tuple
ListComp comprehension Compare Call keyword FormattedValue JoinedStr Constant Attribute Subscript
Slice Name Load Store And Or Not Add Sub Mult FloorDiv Mod Pow LShift RShift BitOr BitXor BitAnd
Invert UAdd USub Eq NotEq Lt LtE Gt GtE Is IsNot In NotIn
""".split()

TOP_NODES = (ast.Expr, ast.ImportFrom, ast.FunctionDef, ast.ClassDef, ast.Assign)

BUILTINS = """
len range enumerate zip min max sum abs sorted reversed int str bool list tuple dict set frozenset
isinstance ord repr any all divmod Exception ValueError TypeError KeyError IndexError LookupError
ZeroDivisionError ArithmeticError OverflowError RuntimeError NotImplementedError AttributeError
StopIteration
""".split()

METHODS = """
append clear copy count endswith extend find get index insert isalnum isalpha isdigit islower isspace
isupper items join keys ljust lower lstrip partition pop remove replace reverse rfind rjust rpartition
rsplit rstrip setdefault split splitlines startswith strip update upper values zfill bit_length
""".split()

WORDS = re.compile(
    r"\b(type|typing|typing_extensions|enum|Enum|IntEnum|StrEnum|Flag|IntFlag|Generic|Protocol|ABC|ABCMeta"
    r"|namedtuple|NamedTuple|TypedDict|TYPE_CHECKING|abstractmethod)\b|dataclass|overload|contextmanager")


def files():
    return sorted(path for path in PACKAGE.rglob("*") if "__pycache__" not in path.parts and path.is_file())


def is_text(node):
    return isinstance(node, ast.Expr) and isinstance(node.value, ast.Constant)


def faults_of_top(tree):
    for place, node in enumerate(tree.body):
        if not isinstance(node, TOP_NODES) or isinstance(node, ast.Expr) and (place > 0 or not is_text(node)):
            yield node, "L3"


def faults_of_form(node):
    if type(node).__name__ not in ALLOWED_NODES:
        yield node, "L6 or L7: " + type(node).__name__
    if isinstance(node, ast.Expr) and not isinstance(node.value, ast.Call) and node.lineno > 1:
        yield node, "L6: no call"
    if isinstance(node, ast.Assign) and len(node.targets) != 1:
        yield node, "L6: several targets"
    if isinstance(node, (ast.For, ast.While)) and node.orelse or isinstance(node, ast.Try) and node.finalbody:
        yield node, "L6: else or finally"
    if isinstance(node, ast.ListComp) and (len(node.generators) != 1 or len(node.generators[0].ifs) > 1):
        yield node, "L7: comprehension"
    if isinstance(node, ast.Constant) and not isinstance(node.value, (int, str, type(None))):
        yield node, "L7: value"
    if isinstance(node, ast.ImportFrom) and (node.level or not node.module.startswith("sharepress.")):
        yield node, "L2"
    if isinstance(node, ast.ClassDef) and not all(isinstance(part, (ast.FunctionDef, ast.Pass)) for part in node.body):
        yield node, "L5"
    if isinstance(node, ast.FunctionDef) and node.end_lineno - node.lineno >= 40:
        yield node, "L10"
    if isinstance(node, ast.FunctionDef) and (node.decorator_list or node.args.vararg or node.args.kwarg
                                              or node.args.kwonlyargs or node.args.posonlyargs):
        yield node, "L4"
    if isinstance(node, ast.BinOp) and isinstance(node.op, ast.Pow) and not isinstance(node.right, ast.Constant):
        yield node, "L27"
    if isinstance(node, ast.FormattedValue) and (not isinstance(node.value, ast.Name) or node.format_spec):
        yield node, "L7: f-string"


def bound_names(tree):
    for node in ast.walk(tree):
        if isinstance(node, (ast.FunctionDef, ast.ClassDef)):
            yield node.name
        elif isinstance(node, ast.arg):
            yield node.arg
        elif isinstance(node, ast.alias):
            yield node.asname or node.name
        elif isinstance(node, ast.ExceptHandler) and node.name:
            yield node.name
        elif isinstance(node, ast.Name) and isinstance(node.ctx, ast.Store):
            yield node.id


def faults_of_names(tree):
    own = set(bound_names(tree))
    python = set(dir(__builtins__)) if not isinstance(__builtins__, dict) else set(__builtins__)
    for name in own:
        if name in python or name.startswith("_") and name != "__init__":
            yield tree.body[0], "L12 or L15: " + name
    methods = {part.name for node in ast.walk(tree) if isinstance(node, ast.ClassDef)
               for part in node.body if isinstance(part, ast.FunctionDef)}
    for node in ast.walk(tree):
        if isinstance(node, ast.Name) and node.id not in own and node.id not in BUILTINS:
            yield node, "L8: " + node.id
        if isinstance(node, ast.Call) and isinstance(node.func, ast.Attribute):
            if node.func.attr not in METHODS and node.func.attr not in methods:
                yield node, "L25: " + node.func.attr


def faults(source):
    tree = ast.parse(source)
    found = list(faults_of_top(tree)) + list(faults_of_names(tree))
    for node in ast.walk(tree):
        found.extend(faults_of_form(node))
    return [(getattr(node, "lineno", 0), rule) for node, rule in found]


class Language(unittest.TestCase):
    def test_nothing_but_plain_files(self):
        self.assertIn(PACKAGE / "__init__.py", files())
        for path in files():
            self.assertRegex(path.name, r"\A[a-z0-9_]+\.py\Z")

    def test_the_signs_and_lines(self):
        for path in files():
            text = path.read_bytes().decode("ascii")
            with self.subTest(file=path.name):
                self.assertRegex(text, r"\A[ -~\n]*\Z")
                self.assertIsNone(WORDS.search(text))
                self.assertLessEqual(len(text.splitlines()), 400)
                self.assertLessEqual(max(len(line) for line in text.splitlines()), 120)

    def test_the_forms_and_names(self):
        for path in files():
            with self.subTest(file=path.name):
                self.assertEqual(faults(path.read_text()), [])

    def test_what_is_outside_is_found(self):
        for source in ("import os", "x = 1.5", "x = [y for y in z if a if b]", "def f(n):\n    return 2 ** n",
                       "def f(*xs):\n    return xs", "def f(x):\n    return x / 2", "def f(x):\n    x.sort()",
                       "def f(x):\n    yield x", "def f(_x):\n    return 1", "def f(id):\n    return 1",
                       "def f(x):\n    return print(x)", "class A:\n    x = 1", "from .errors import BadModel",
                       "def f(x):\n    'why'\n    return x", "def f(x):\n    with x:\n        pass"):
            with self.subTest(source=source):
                self.assertNotEqual(faults(source), [])


if __name__ == "__main__":
    unittest.main()
