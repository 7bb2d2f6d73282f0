"""The package's files keep to the small part of Python that they are to be written in.

A look at what can be seen row by row; the rules themselves say more.
"""

import ast
import builtins
import re
import unittest
from pathlib import Path

PACKAGE = Path(__file__).resolve().parent.parent / "hueshare"

NODES = set("""
    Module Import ImportFrom alias FunctionDef arguments arg ClassDef Lambda
    Assign AugAssign If While For Return Break Continue Pass Raise Try ExceptHandler Expr
    Constant List Tuple Dict Set Name Load Store Attribute Subscript Slice Call keyword
    BinOp Add Sub Mult FloorDiv Mod Pow BitAnd BitOr BitXor LShift RShift UnaryOp USub UAdd Not Invert
    BoolOp And Or Compare Eq NotEq Lt LtE Gt GtE Is IsNot In NotIn IfExp
    ListComp comprehension JoinedStr FormattedValue
""".split())

BUILTINS = set("""
    len range enumerate zip min max sum abs sorted reversed int str bool list tuple dict set frozenset isinstance
    ord repr any all divmod Exception ValueError TypeError KeyError IndexError LookupError ZeroDivisionError
    ArithmeticError OverflowError RuntimeError NotImplementedError AttributeError StopIteration
""".split())

METHODS_WITH_UNDERSCORES = set("__init__ __eq__ __repr__ __str__ __len__".split())

FORBIDDEN_WORDS = set("""
    type typing typing_extensions enum Enum IntEnum StrEnum Flag IntFlag Generic Protocol ABC ABCMeta namedtuple
    NamedTuple TypedDict TYPE_CHECKING abstractmethod
""".split())

METHODS = set("""
    append clear copy count endswith extend find get index insert isalnum isalpha isdigit islower isspace isupper
    items join keys ljust lower lstrip partition pop remove replace reverse rfind rjust rpartition rsplit rstrip
    setdefault split splitlines startswith strip update upper values zfill bit_length
""".split())

FORBIDDEN_PARTS = ("dataclass", "overload", "contextmanager")


def package_files():
    return sorted(path for path in PACKAGE.rglob("*") if path.is_file() and "__pycache__" not in path.parts)


def package_trees():
    return [ast.parse(path.read_text(encoding="ascii"), path.name) for path in package_files()]


def names_given(tree):
    for node in ast.walk(tree):
        if isinstance(node, ast.arg):
            yield node.arg
        elif isinstance(node, ast.Name) and isinstance(node.ctx, ast.Store):
            yield node.id


def names_bound(tree):
    yield from names_given(tree)
    for node in ast.walk(tree):
        if isinstance(node, (ast.FunctionDef, ast.ClassDef)):
            yield node.name


def imports_of(tree):
    for node in ast.walk(tree):
        if isinstance(node, ast.ImportFrom):
            for alias in node.names:
                yield node.module, alias.asname or alias.name


def names_at_top(tree):
    for node in tree.body:
        if isinstance(node, (ast.FunctionDef, ast.ClassDef)):
            yield node.name
        elif isinstance(node, ast.Assign):
            yield node.targets[0].id


def methods_of(tree):
    for node in ast.walk(tree):
        if isinstance(node, ast.ClassDef):
            yield from (part.name for part in node.body if isinstance(part, ast.FunctionDef))


def values_of(tree):
    for node in ast.walk(tree):
        if isinstance(node, ast.Attribute) and isinstance(node.ctx, ast.Store):
            yield node.attr


class LanguageTest(unittest.TestCase):
    def test_files(self):
        for path in package_files():
            with self.subTest(file=path.name):
                self.assertRegex(path.name, r"^(__init__|__main__|[a-z][a-z0-9_]*)\.py$")
        self.assertIn("__init__.py", [path.name for path in package_files()])

    def test_signs_and_sizes(self):
        for path in package_files():
            text = path.read_text(encoding="ascii")
            rows = text.split("\n")
            with self.subTest(file=path.name):
                self.assertRegex(text, r"\A[ -~\n]*\Z")
                self.assertLessEqual(len(rows), 400)
                self.assertLessEqual(max(len(row) for row in rows), 120)

    def test_words(self):
        for path in package_files():
            text = path.read_text(encoding="ascii")
            with self.subTest(file=path.name):
                self.assertEqual(FORBIDDEN_WORDS & set(re.findall(r"\w+", text)), set())
                self.assertEqual([part for part in FORBIDDEN_PARTS if part in text], [])

    def test_steps(self):
        for tree in package_trees():
            self.assertEqual({type(node).__name__ for node in ast.walk(tree)} - NODES, set())

    def test_function_sizes(self):
        for tree in package_trees():
            for node in ast.walk(tree):
                if isinstance(node, ast.FunctionDef):
                    self.assertLessEqual(node.end_lineno - node.lineno + 1, 40, node.name)

    def test_imports(self):
        for tree in package_trees():
            for node in ast.walk(tree):
                self.assertNotIsInstance(node, ast.Import)
                if isinstance(node, ast.ImportFrom):
                    self.assertEqual(node.level, 0)
                    self.assertTrue(node.module.startswith("hueshare."), node.module)
                    self.assertNotIn("*", [alias.name for alias in node.names])

    def test_imports_from_the_file_that_defines_and_in_no_round(self):
        trees = {"hueshare." + path.stem: ast.parse(path.read_text(encoding="ascii")) for path in package_files()}
        drawn = {name: {module for module, alias in imports_of(tree)} for name, tree in trees.items()}
        for tree in trees.values():
            for module, alias in imports_of(tree):
                self.assertIn(alias, list(names_at_top(trees[module])))
        left = dict(drawn)
        while left:
            free = [name for name in left if not left[name] & set(left)]
            self.assertTrue(free, left)
            for name in free:
                left.pop(name)

    def test_no_local_is_called_like_an_import_or_a_class(self):
        for tree in package_trees():
            taken = {alias for module, alias in imports_of(tree)}
            taken |= {node.name for node in tree.body if isinstance(node, ast.ClassDef)}
            self.assertEqual(taken & set(names_given(tree)), set())

    def test_each_name_once_at_the_top(self):
        for tree in package_trees():
            names = list(names_at_top(tree)) + [alias for module, alias in imports_of(tree)]
            self.assertEqual(len(names), len(set(names)))

    def test_is(self):
        for tree in package_trees():
            for node in ast.walk(tree):
                if isinstance(node, ast.Compare) and isinstance(node.ops[0], (ast.Is, ast.IsNot)):
                    self.assertIsInstance(node.comparators[0], ast.Constant)
                    self.assertIn(node.comparators[0].value, (None, True, False))

    def test_methods(self):
        trees = package_trees()
        own = {name for tree in trees for name in methods_of(tree)}
        kept = {name for tree in trees for name in values_of(tree)}
        self.assertEqual(own & kept, set())
        for tree in trees:
            for node in ast.walk(tree):
                if isinstance(node, ast.Call) and isinstance(node.func, ast.Attribute):
                    self.assertIn(node.func.attr, METHODS | own)

    def test_names_of_pythons_own(self):
        for tree in package_trees():
            used = {node.id for node in ast.walk(tree) if isinstance(node, ast.Name)}
            self.assertEqual((used & set(dir(builtins))) - BUILTINS, set())

    def test_names_bound(self):
        for tree in package_trees():
            for name in names_bound(tree):
                if name not in METHODS_WITH_UNDERSCORES:
                    self.assertRegex(name, r"^[A-Za-z][A-Za-z0-9_]*$")
                    self.assertNotIn(name, dir(builtins))


if __name__ == "__main__":
    unittest.main()
