"""Holds the package's files to the part of Python that the program keeps to, as far as a short test can."""

import ast
import os
import re
import unittest

PACKAGE = os.path.join(os.path.dirname(os.path.dirname(os.path.abspath(__file__))), "fugueanswers")

ALLOWED_NODES = set("""
    Module Expr Constant ImportFrom alias FunctionDef arguments arg ClassDef Return Assign AugAssign If While For
    Break Continue Pass Raise Try ExceptHandler Name Load Store Attribute Call Subscript Slice List Tuple Dict
    ListComp comprehension IfExp BoolOp And Or UnaryOp Not USub Compare Eq NotEq Lt LtE Gt GtE Is IsNot In NotIn
    BinOp Add Sub Mult FloorDiv Mod Pow BitAnd BitOr BitXor LShift RShift Invert JoinedStr FormattedValue Lambda keyword
""".split())

ALLOWED_BUILT_IN = set("""
    len range enumerate zip min max sum abs sorted reversed int str bool list tuple dict set frozenset isinstance ord
    repr any all divmod Exception ValueError TypeError KeyError IndexError LookupError ZeroDivisionError
    ArithmeticError OverflowError RuntimeError NotImplementedError AttributeError StopIteration
""".split())

BARRED_WORDS = re.compile(
    r"\b(type|typing|typing_extensions|enum|Enum|IntEnum|StrEnum|Flag|IntFlag|Generic|Protocol|ABC|ABCMeta|namedtuple"
    r"|NamedTuple|TypedDict|TYPE_CHECKING|abstractmethod)\b|dataclass|overload|contextmanager")


def package_files():
    """Of each file of the package its name and its text."""
    found = []
    for name in sorted(os.listdir(PACKAGE)):
        if name != "__pycache__":
            with open(os.path.join(PACKAGE, name), encoding="utf-8") as file:
                found.append((name, file.read()))
    return found


def nodes_of(text):
    return list(ast.walk(ast.parse(text)))


class LanguageTest(unittest.TestCase):
    def test_files(self):
        names = [name for name, text in package_files()]
        self.assertIn("__init__.py", names)
        for name in names:
            self.assertRegex(name, r"^[a-z_][a-z0-9_]*\.py$")

    def test_signs_and_sizes(self):
        for name, text in package_files():
            self.assertRegex(text, r"\A[\n -~]*\Z", name)
            self.assertLessEqual(len(text.splitlines()), 400, name)
            for row in text.splitlines():
                self.assertLessEqual(len(row), 120, (name, row))
            for node in nodes_of(text):
                if isinstance(node, ast.FunctionDef):
                    self.assertLessEqual(node.end_lineno - node.lineno + 1, 40, (name, node.name))

    def test_words(self):
        for name, text in package_files():
            self.assertIsNone(BARRED_WORDS.search(text), name)

    def test_kinds_of_statements_and_expressions(self):
        for name, text in package_files():
            for node in nodes_of(text):
                self.assertIn(node.__class__.__name__, ALLOWED_NODES, (name, getattr(node, "lineno", 0)))
                if isinstance(node, ast.Assign):
                    self.assertIsInstance(node.targets[0], (ast.Name, ast.Attribute, ast.Subscript), name)
                    self.assertEqual(len(node.targets), 1, (name, node.lineno))
                if isinstance(node, (ast.For, ast.While)):
                    self.assertEqual(node.orelse, [], (name, node.lineno))
                if isinstance(node, ast.Constant):
                    self.assertIsInstance(node.value, (int, str, bool, None.__class__), (name, node.lineno))

    def test_imports_are_the_packages_own(self):
        for name, text in package_files():
            for node in nodes_of(text):
                if isinstance(node, ast.ImportFrom):
                    self.assertEqual(node.level, 0, name)
                    self.assertTrue(node.module.startswith("fugueanswers."), (name, node.module))

    def test_names(self):
        every_built_in = set(dir(__builtins__) if not isinstance(__builtins__, dict) else __builtins__)
        for name, text in package_files():
            for node in nodes_of(text):
                if isinstance(node, ast.Name):
                    self.assertFalse(node.id.startswith("_"), (name, node.id))
                    self.assertNotIn(node.id, every_built_in - ALLOWED_BUILT_IN, (name, node.lineno))
                    if isinstance(node.ctx, ast.Store):
                        self.assertNotIn(node.id, every_built_in, (name, node.lineno))
                if isinstance(node, ast.arg):
                    self.assertNotIn(node.arg, every_built_in, (name, node.lineno))


if __name__ == "__main__":
    unittest.main()
