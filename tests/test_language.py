"""The package's files keep to the small part of Python that they are to be written in.

A look at what can be seen row by row; the rules themselves say more.
"""

import ast
import builtins
import re
import unittest
from pathlib import Path

PACKAGE = Path(__file__).resolve().parent.parent / "hueshare"

NODES = set("""
    Module Import ImportFrom alias FunctionDef arguments arg ClassDef Lambda
    Assign AugAssign If While For Return Break Continue Pass Raise Try ExceptHandler Expr
    Constant List Tuple Dict Set Name Load Store Attribute Subscript Slice Call keyword
    BinOp Add Sub Mult FloorDiv Mod Pow BitAnd BitOr BitXor LShift RShift UnaryOp USub UAdd Not Invert
    BoolOp And Or Compare Eq NotEq Lt LtE Gt GtE Is IsNot In NotIn IfExp
    ListComp comprehension JoinedStr FormattedValue
""".split())

BUILTINS = set("""
    len range enumerate zip min max sum abs sorted reversed int str bool list tuple dict set frozenset isinstance
    ord repr any all divmod Exception ValueError TypeError KeyError IndexError LookupError ZeroDivisionError
    ArithmeticError OverflowError RuntimeError NotImplementedError AttributeError StopIteration
""".split())

METHODS_WITH_UNDERSCORES = set("__init__ __eq__ __repr__ __str__ __len__".split())

FORBIDDEN_WORDS = set("""
    type typing typing_extensions enum Enum IntEnum StrEnum Flag IntFlag Generic Protocol ABC ABCMeta namedtuple
    NamedTuple TypedDict TYPE_CHECKING abstractmethod
""".split())

METHODS = set("""
    append clear copy count endswith extend find get index insert isalnum isalpha isdigit islower isspace isupper
    items join keys ljust lower lstrip partition pop remove replace reverse rfind rjust rpartition rsplit rstrip
    setdefault split splitlines startswith strip update upper values zfill bit_length
""".split())

FORBIDDEN_PARTS = ("dataclass", "overload", "contextmanager")

WALKED = set("zip enumerate reversed range items keys values".split())
WALKERS = set("list tuple dict sorted sum any all enumerate zip".split())

KEYWORDS = {
    "sorted": {"key", "reverse"}, "min": {"key", "default"}, "max": {"key", "default"}, "sum": {"start"},
    "enumerate": {"start"}, "zip": {"strict"},
}


def package_files():
    return sorted(path for path in PACKAGE.rglob("*") if path.is_file() and "__pycache__" not in path.parts)


def package_trees():
    return [ast.parse(path.read_text(encoding="ascii"), path.name) for path in package_files()]


def with_parents(tree):
    # Each step of a file with the one that it stands in.
    for parent in ast.walk(tree):
        for node in ast.iter_child_nodes(parent):
            yield node, parent


def called(node):
    if not isinstance(node, ast.Call):
        return None
    return node.func.id if isinstance(node.func, ast.Name) else getattr(node.func, "attr", None)


def is_walked_at_once(node, parent):
    if isinstance(parent, (ast.For, ast.comprehension)):
        return parent.iter is node
    if called(parent) == "join":
        return isinstance(parent.func.value, ast.Constant)
    if called(parent) in ("min", "max"):
        return len(parent.args) == 1
    return called(parent) in WALKERS and parent.args[0] is node


def is_set_asked_on_the_spot(node, parents):
    parent = parents[node]
    if isinstance(parent, ast.BinOp):
        return is_set_asked_on_the_spot(parent, parents)
    return isinstance(parent, ast.Compare) or called(parent) in ("sorted", "len")


def is_plain_value(node):
    if isinstance(node, (ast.List, ast.Tuple)):
        return all(is_plain_value(part) for part in node.elts)
    if isinstance(node, ast.Dict):
        return all(is_plain_value(part) for part in node.keys + node.values)
    return isinstance(node, (ast.Constant, ast.Name))


def names_given(tree):
    for node in ast.walk(tree):
        if isinstance(node, ast.arg):
            yield node.arg
        elif isinstance(node, ast.Name) and isinstance(node.ctx, ast.Store):
            yield node.id


def names_bound(tree):
    yield from names_given(tree)
    for node in ast.walk(tree):
        if isinstance(node, (ast.FunctionDef, ast.ClassDef)):
            yield node.name


def imports_of(tree):
    for node in ast.walk(tree):
        if isinstance(node, ast.ImportFrom):
            for alias in node.names:
                yield node.module, alias.asname or alias.name


def names_at_top(tree):
    for node in tree.body:
        if isinstance(node, (ast.FunctionDef, ast.ClassDef)):
            yield node.name
        elif isinstance(node, ast.Assign):
            yield node.targets[0].id


def methods_of(tree):
    for node in ast.walk(tree):
        if isinstance(node, ast.ClassDef):
            yield from (part.name for part in node.body if isinstance(part, ast.FunctionDef))


def values_of(tree):
    for node in ast.walk(tree):
        if isinstance(node, ast.Attribute) and isinstance(node.ctx, ast.Store):
            yield node.attr


class LanguageTest(unittest.TestCase):
    def test_files(self):
        for path in package_files():
            with self.subTest(file=path.name):
                self.assertRegex(path.name, r"^(__init__|__main__|[a-z][a-z0-9_]*)\.py$")
        self.assertIn("__init__.py", [path.name for path in package_files()])

    def test_signs_and_sizes(self):
        for path in package_files():
            text = path.read_text(encoding="ascii")
            rows = text.split("\n")
            with self.subTest(file=path.name):
                self.assertRegex(text, r"\A[ -~\n]*\Z")
                self.assertLessEqual(len(rows), 400)
                self.assertLessEqual(max(len(row) for row in rows), 120)

    def test_words(self):
        for path in package_files():
            text = path.read_text(encoding="ascii")
            with self.subTest(file=path.name):
                self.assertEqual(FORBIDDEN_WORDS & set(re.findall(r"\w+", text)), set())
                self.assertEqual([part for part in FORBIDDEN_PARTS if part in text], [])

    def test_steps(self):
        for tree in package_trees():
            self.assertEqual({type(node).__name__ for node in ast.walk(tree)} - NODES, set())

    def test_function_sizes(self):
        for tree in package_trees():
            for node in ast.walk(tree):
                if isinstance(node, ast.FunctionDef):
                    self.assertLessEqual(node.end_lineno - node.lineno + 1, 40, node.name)

    def test_imports(self):
        for tree in package_trees():
            for node in ast.walk(tree):
                self.assertNotIsInstance(node, ast.Import)
                if isinstance(node, ast.ImportFrom):
                    self.assertEqual(node.level, 0)
                    self.assertTrue(node.module.startswith("hueshare."), node.module)
                    self.assertNotIn("*", [alias.name for alias in node.names])

    def test_imports_from_the_file_that_defines_and_in_no_round(self):
        trees = {"hueshare." + path.stem: ast.parse(path.read_text(encoding="ascii")) for path in package_files()}
        drawn = {name: {module for module, alias in imports_of(tree)} for name, tree in trees.items()}
        for tree in trees.values():
            for module, alias in imports_of(tree):
                self.assertIn(alias, list(names_at_top(trees[module])))
        left = dict(drawn)
        while left:
            free = [name for name in left if not left[name] & set(left)]
            self.assertTrue(free, left)
            for name in free:
                left.pop(name)

    def test_no_local_is_called_like_an_import_or_a_class(self):
        for tree in package_trees():
            taken = {alias for module, alias in imports_of(tree)}
            taken |= {node.name for node in tree.body if isinstance(node, ast.ClassDef)}
            self.assertEqual(taken & set(names_given(tree)), set())

    def test_each_name_once_at_the_top(self):
        for tree in package_trees():
            names = list(names_at_top(tree)) + [alias for module, alias in imports_of(tree)]
            self.assertEqual(len(names), len(set(names)))

    def test_is(self):
        for tree in package_trees():
            for node in ast.walk(tree):
                if isinstance(node, ast.Compare) and isinstance(node.ops[0], (ast.Is, ast.IsNot)):
                    self.assertIsInstance(node.comparators[0], ast.Constant)
                    self.assertIn(node.comparators[0].value, (None, True, False))

    def test_methods(self):
        trees = package_trees()
        own = {name for tree in trees for name in methods_of(tree)}
        kept = {name for tree in trees for name in values_of(tree)}
        self.assertEqual(own & kept, set())
        for tree in trees:
            for node in ast.walk(tree):
                if isinstance(node, ast.Call) and isinstance(node.func, ast.Attribute):
                    self.assertIn(node.func.attr, METHODS | own)

    def test_top_of_a_file(self):
        for tree in package_trees():
            for node in tree.body:
                if isinstance(node, ast.Assign):
                    self.assertTrue(is_plain_value(node.value), ast.unparse(node))
                elif isinstance(node, ast.Expr):
                    self.assertIsInstance(node.value, ast.Constant)
                else:
                    self.assertIsInstance(node, (ast.ImportFrom, ast.FunctionDef, ast.ClassDef))

    def test_one_target_and_plain_comprehensions(self):
        for tree in package_trees():
            for node in ast.walk(tree):
                if isinstance(node, ast.Assign):
                    self.assertEqual(len(node.targets), 1)
                    self.assertNotIsInstance(node.targets[0], (ast.Tuple, ast.List), ast.unparse(node))
                if isinstance(node, ast.ListComp):
                    self.assertEqual(len(node.generators), 1)
                    self.assertLessEqual(len(node.generators[0].ifs), 1)
                if isinstance(node, (ast.For, ast.While)):
                    self.assertEqual(node.orelse, [])

    def test_walked_at_once(self):
        for tree in package_trees():
            for node, parent in with_parents(tree):
                if called(node) in WALKED:
                    self.assertTrue(is_walked_at_once(node, parent), ast.unparse(parent))

    def test_sets_are_not_kept(self):
        for tree in package_trees():
            parents = dict(with_parents(tree))
            for node in parents:
                if called(node) in ("set", "frozenset") or isinstance(node, ast.Set):
                    self.assertTrue(is_set_asked_on_the_spot(node, parents), ast.unparse(parents[node]))

    def test_keywords_at_pythons_own(self):
        for tree in package_trees():
            for node in ast.walk(tree):
                if isinstance(node, ast.Call) and called(node) in BUILTINS | METHODS:
                    given = {keyword.arg for keyword in node.keywords}
                    self.assertLessEqual(given, KEYWORDS.get(called(node), set()), ast.unparse(node))

    def test_texts_and_exponents(self):
        for tree in package_trees():
            for node in ast.walk(tree):
                if isinstance(node, ast.Constant) and isinstance(node.value, str):
                    self.assertNotIn("%", node.value)
                if isinstance(node, ast.Constant):
                    self.assertNotIsInstance(node.value, (float, bytes, complex))
                if isinstance(node, ast.BinOp) and isinstance(node.op, ast.Pow):
                    self.assertIsInstance(node.right, ast.Constant)

    def test_errors_are_made_on_the_spot(self):
        for tree in package_trees():
            for node in ast.walk(tree):
                if isinstance(node, ast.Raise):
                    self.assertIsInstance(node.exc, ast.Call)
                if isinstance(node, ast.FunctionDef):
                    self.assertEqual(node.decorator_list, [])

    def test_names_of_pythons_own(self):
        for tree in package_trees():
            used = {node.id for node in ast.walk(tree) if isinstance(node, ast.Name)}
            self.assertEqual((used & set(dir(builtins))) - BUILTINS, set())

    def test_names_bound(self):
        for tree in package_trees():
            for name in names_bound(tree):
                if name not in METHODS_WITH_UNDERSCORES:
                    self.assertRegex(name, r"^[A-Za-z][A-Za-z0-9_]*$")
                    self.assertNotIn(name, dir(builtins))


if __name__ == "__main__":
    unittest.main()
