"""The package keeps to the part of Python that it's written in, as far as its files' text can show that."""

import ast
import builtins
import re
import unittest
from pathlib import Path

PACKAGE = Path(__file__).resolve().parent.parent / "shiptanks"
FILES = sorted(PACKAGE.rglob("*.py"))

ALLOWED_NODES = (
    ast.Module, ast.ImportFrom, ast.alias, ast.FunctionDef, ast.arguments, ast.arg, ast.ClassDef, ast.Expr,
    ast.Assign, ast.AugAssign, ast.If, ast.While, ast.For, ast.Return, ast.Break, ast.Continue, ast.Pass, ast.Raise,
    ast.Constant, ast.List, ast.Tuple, ast.Dict, ast.Name, ast.Attribute, ast.Subscript, ast.Slice, ast.Call,
    ast.BinOp, ast.UnaryOp, ast.BoolOp, ast.Compare, ast.IfExp, ast.ListComp, ast.comprehension,
    ast.Add, ast.Sub, ast.Mult, ast.FloorDiv, ast.Mod, ast.USub, ast.Not, ast.And, ast.Or, ast.Eq, ast.NotEq,
    ast.Lt, ast.LtE, ast.Gt, ast.GtE, ast.In, ast.NotIn, ast.Is, ast.IsNot, ast.Load, ast.Store,
)
ALLOWED_BUILTINS = (
    "len", "range", "enumerate", "zip", "min", "max", "sum", "abs", "sorted", "reversed", "int", "str", "bool",
    "list", "tuple", "dict", "isinstance", "any", "all", "divmod",
)
ALLOWED_METHODS = (
    "append", "copy", "count", "extend", "get", "index", "insert", "items", "keys", "pop", "remove", "reverse",
    "setdefault", "update", "values",
)
FORBIDDEN_WORDS = (
    "type", "typing", "typing_extensions", "enum", "Enum", "IntEnum", "StrEnum", "Flag", "IntFlag", "Generic",
    "Protocol", "ABC", "ABCMeta", "namedtuple", "NamedTuple", "TypedDict", "TYPE_CHECKING", "abstractmethod",
)


def bound_names(tree):
    """Every name that a file binds: parameters, locals, functions, classes."""
    names = []
    for node in ast.walk(tree):
        if isinstance(node, ast.Name) and isinstance(node.ctx, ast.Store):
            names.append(node.id)
        elif isinstance(node, ast.arg):
            names.append(node.arg)
        elif isinstance(node, (ast.FunctionDef, ast.ClassDef)):
            names.append(node.name)
    return names


def trees():
    for path in FILES:
        yield path.name, ast.parse(path.read_text(encoding="utf-8"))


class Language(unittest.TestCase):
    def test_files(self):
        self.assertIn(PACKAGE / "__init__.py", FILES)
        for path in PACKAGE.rglob("*"):
            if "__pycache__" not in path.parts:
                self.assertRegex(path.name, r"^[a-z0-9_]+\.py$")

    def test_signs_and_sizes(self):
        for path in FILES:
            text = path.read_bytes().decode("ascii")
            rows = text.split("\n")
            self.assertLessEqual(len(rows), 401, path.name)
            for number, row in enumerate(rows, 1):
                self.assertLessEqual(len(row), 120, (path.name, number))
                self.assertRegex(row, r"^[ -~]*$", (path.name, number))

    def test_words(self):
        for path in FILES:
            words = re.findall(r"\w+", path.read_text())
            self.assertEqual([word for word in words if word in FORBIDDEN_WORDS], [], path.name)

    def test_kinds_of_statements_and_values(self):
        for name, tree in trees():
            for node in ast.walk(tree):
                where = (name, getattr(node, "lineno", 0), node)
                self.assertIsInstance(node, ALLOWED_NODES, where)
                if isinstance(node, ast.Constant):
                    self.assertIn(type(node.value).__name__, ("int", "str", "bool", "NoneType"), where)
                if isinstance(node, ast.Assign):
                    self.assertEqual(len(node.targets), 1, where)
                if isinstance(node, (ast.For, ast.While)):
                    self.assertEqual(node.orelse, [], where)

    def test_functions(self):
        for name, tree in trees():
            for node in ast.walk(tree):
                if isinstance(node, ast.FunctionDef):
                    where = (name, node.name)
                    self.assertLessEqual(node.end_lineno - node.lineno + 1, 40, where)
                    self.assertEqual(node.decorator_list, [], where)
                    rest = (node.args.vararg, node.args.kwarg, node.args.kwonlyargs, node.args.posonlyargs)
                    self.assertEqual(rest, (None, None, [], []), where)

    def test_imports(self):
        for name, tree in trees():
            for node in ast.walk(tree):
                if isinstance(node, ast.ImportFrom):
                    self.assertEqual(node.level, 0, name)
                    source = PACKAGE / (node.module.removeprefix("shiptanks.") + ".py")
                    defined = bound_names(ast.parse(source.read_text()))
                    for each in node.names:
                        self.assertIn(each.name, defined, name)
                        self.assertIsNone(each.asname, name)

    def test_names(self):
        for name, tree in trees():
            imported = [each.name for node in ast.walk(tree) if isinstance(node, ast.ImportFrom) for each in node.names]
            bound = [each for each in bound_names(tree) if each != "__init__"]
            for each in bound:
                self.assertRegex(each, r"^[A-Za-z][A-Za-z0-9_]*$", name)
                self.assertFalse(hasattr(builtins, each), (name, each))
                self.assertNotIn(each, imported, name)
            for node in ast.walk(tree):
                if isinstance(node, ast.Name) and node.id not in bound + imported:
                    self.assertIn(node.id, ALLOWED_BUILTINS, name)

    def test_methods(self):
        own = ["keep", "take_back", "do_again"]
        for name, tree in trees():
            for node in ast.walk(tree):
                if isinstance(node, ast.Call) and isinstance(node.func, ast.Attribute):
                    self.assertIn(node.func.attr, list(ALLOWED_METHODS) + own, name)

    def test_names_of_the_top_are_given_once(self):
        for name, tree in trees():
            top = []
            for node in tree.body:
                if isinstance(node, ast.Assign):
                    top.append(node.targets[0].id)
                elif isinstance(node, (ast.FunctionDef, ast.ClassDef)):
                    top.append(node.name)
            self.assertEqual(len(top), len(set(top)), name)


if __name__ == "__main__":
    unittest.main()
