"""The package's files keep to the small part of Python that they are to be written in.

A look at what can be seen row by row; the rules themselves say more.
"""

import ast
import builtins
import re
import unittest
from pathlib import Path

PACKAGE = Path(__file__).resolve().parent.parent / "hueshare"

NODES = set("""
    Module Import ImportFrom alias FunctionDef arguments arg ClassDef Lambda
    Assign AugAssign If While For Return Break Continue Pass Raise Try ExceptHandler Expr
    Constant List Tuple Dict Set Name Load Store Attribute Subscript Slice Call keyword
    BinOp Add Sub Mult FloorDiv Mod Pow BitAnd BitOr BitXor LShift RShift UnaryOp USub UAdd Not Invert
    BoolOp And Or Compare Eq NotEq Lt LtE Gt GtE Is IsNot In NotIn IfExp
    ListComp comprehension JoinedStr FormattedValue
""".split())

BUILTINS = set("""
    len range enumerate zip min max sum abs sorted reversed int str bool list tuple dict set frozenset isinstance
    ord repr any all divmod Exception ValueError TypeError KeyError IndexError LookupError ZeroDivisionError
    ArithmeticError OverflowError RuntimeError NotImplementedError AttributeError StopIteration
""".split())

METHODS_WITH_UNDERSCORES = set("__init__ __eq__ __repr__ __str__ __len__".split())

FORBIDDEN_WORDS = set("""
    type typing typing_extensions enum Enum IntEnum StrEnum Flag IntFlag Generic Protocol ABC ABCMeta namedtuple
    NamedTuple TypedDict TYPE_CHECKING abstractmethod
""".split())

FORBIDDEN_PARTS = ("dataclass", "overload", "contextmanager")


def package_files():
    return sorted(path for path in PACKAGE.rglob("*") if path.is_file() and "__pycache__" not in path.parts)


def package_trees():
    return [ast.parse(path.read_text(encoding="ascii"), path.name) for path in package_files()]


def names_bound(tree):
    for node in ast.walk(tree):
        if isinstance(node, (ast.FunctionDef, ast.ClassDef)):
            yield node.name
        elif isinstance(node, ast.arg):
            yield node.arg
        elif isinstance(node, ast.Name) and isinstance(node.ctx, ast.Store):
            yield node.id


class LanguageTest(unittest.TestCase):
    def test_files(self):
        for path in package_files():
            with self.subTest(file=path.name):
                self.assertRegex(path.name, r"^(__init__|__main__|[a-z][a-z0-9_]*)\.py$")
        self.assertIn("__init__.py", [path.name for path in package_files()])

    def test_signs_and_sizes(self):
        for path in package_files():
            text = path.read_text(encoding="ascii")
            rows = text.split("\n")
            with self.subTest(file=path.name):
                self.assertRegex(text, r"\A[ -~\n]*\Z")
                self.assertLessEqual(len(rows), 400)
                self.assertLessEqual(max(len(row) for row in rows), 120)

    def test_words(self):
        for path in package_files():
            text = path.read_text(encoding="ascii")
            with self.subTest(file=path.name):
                self.assertEqual(FORBIDDEN_WORDS & set(re.findall(r"\w+", text)), set())
                self.assertEqual([part for part in FORBIDDEN_PARTS if part in text], [])

    def test_steps(self):
        for tree in package_trees():
            self.assertEqual({type(node).__name__ for node in ast.walk(tree)} - NODES, set())

    def test_function_sizes(self):
        for tree in package_trees():
            for node in ast.walk(tree):
                if isinstance(node, ast.FunctionDef):
                    self.assertLessEqual(node.end_lineno - node.lineno + 1, 40, node.name)

    def test_imports(self):
        for tree in package_trees():
            for node in ast.walk(tree):
                self.assertNotIsInstance(node, ast.Import)
                if isinstance(node, ast.ImportFrom):
                    self.assertEqual(node.level, 0)
                    self.assertTrue(node.module.startswith("hueshare."), node.module)
                    self.assertNotIn("*", [alias.name for alias in node.names])

    def test_names_of_pythons_own(self):
        for tree in package_trees():
            used = {node.id for node in ast.walk(tree) if isinstance(node, ast.Name)}
            self.assertEqual((used & set(dir(builtins))) - BUILTINS, set())

    def test_names_bound(self):
        for tree in package_trees():
            for name in names_bound(tree):
                if name not in METHODS_WITH_UNDERSCORES:
                    self.assertRegex(name, r"^[A-Za-z][A-Za-z0-9_]*$")
                    self.assertNotIn(name, dir(builtins))


if __name__ == "__main__":
    unittest.main()
