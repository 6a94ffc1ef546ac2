"""Holds the package's files to the part of Python that the program keeps to, as far as a short test can."""

import ast
import os
import re
import unittest

PACKAGE = os.path.join(os.path.dirname(os.path.dirname(os.path.abspath(__file__))), "fugueanswers")

ALLOWED_NODES = set("""
    Module Expr Constant ImportFrom alias FunctionDef arguments arg ClassDef Return Assign AugAssign If While For
    Break Continue Pass Raise Try ExceptHandler Name Load Store Attribute Call Subscript Slice List Tuple Dict
    ListComp comprehension IfExp BoolOp And Or UnaryOp Not USub Compare Eq NotEq Lt LtE Gt GtE Is IsNot In NotIn
    BinOp Add Sub Mult FloorDiv Mod Pow BitAnd BitOr BitXor LShift RShift Invert JoinedStr FormattedValue Lambda keyword
""".split())

ALLOWED_BUILT_IN = set("""
    len range enumerate zip min max sum abs sorted reversed int str bool list tuple dict set frozenset isinstance ord
    repr any all divmod Exception ValueError TypeError KeyError IndexError LookupError ZeroDivisionError
    ArithmeticError OverflowError RuntimeError NotImplementedError AttributeError StopIteration
""".split())

BARRED_WORDS = re.compile(
    r"\b(type|typing|typing_extensions|enum|Enum|IntEnum|StrEnum|Flag|IntFlag|Generic|Protocol|ABC|ABCMeta|namedtuple"
    r"|NamedTuple|TypedDict|TYPE_CHECKING|abstractmethod)\b|dataclass|overload|contextmanager")

BARRED_NAMES = set("""
    register mro elements open input version_info with_traceback add_note attrgetter breakpoint builtins compile
    copyright credits delattr dir eval exec exit gc getattr globals hasattr help id importlib license locals
    methodcaller os quit setattr super type vars sys __name__ format format_map chr print
""".split())

METHODS_OF_PYTHON = set("""
    append clear copy count endswith extend find get index insert isalnum isalpha isdigit islower isspace isupper items
    join keys ljust lower lstrip partition pop remove replace reverse rfind rjust rpartition rsplit rstrip setdefault
    split splitlines startswith strip update upper values zfill bit_length
""".split())

CHANGES = ("append", "clear", "extend", "insert", "pop", "remove", "reverse", "setdefault", "update")
WALKED_AT_ONCE = ("zip", "enumerate", "reversed", "range")
WALKERS = ("list", "tuple", "dict", "sorted", "sum", "any", "all", "enumerate", "zip", "min", "max")


def package_files():
    """Of each file of the package its name and its text."""
    found = []
    for name in sorted(os.listdir(PACKAGE)):
        if name != "__pycache__":
            with open(os.path.join(PACKAGE, name), encoding="utf-8") as file:
                found.append((name, file.read()))
    return found


def nodes_of(text):
    return list(ast.walk(ast.parse(text)))


def children_by_parent(text):
    """Of each node, and the node that it stands in."""
    return [(node, parent) for parent in nodes_of(text) for node in ast.iter_child_nodes(parent)]


def is_plain_value(node):
    """Whether the node is a number, a text, True, False, None, or a tuple of these."""
    if isinstance(node, ast.UnaryOp) and isinstance(node.op, ast.USub):
        return is_plain_value(node.operand)
    if isinstance(node, ast.Tuple):
        return all(is_plain_value(part) for part in node.elts)
    return isinstance(node, ast.Constant)


def called_name(node):
    """The name that is called where the node is the call of one."""
    return node.func.id if isinstance(node, ast.Call) and isinstance(node.func, ast.Name) else None


def names_at_top(text):
    """The names that a file binds itself at its top."""
    found = []
    for node in ast.parse(text).body:
        if isinstance(node, (ast.FunctionDef, ast.ClassDef)):
            found.append(node.name)
        if isinstance(node, ast.Assign):
            found.append(node.targets[0].id)
    return found


def names_drawn(text):
    """Of each name that a file imports the file that it is drawn from, and the name."""
    return [(node.module.split(".")[1] + ".py", alias.name)
            for node in nodes_of(text) if isinstance(node, ast.ImportFrom) for alias in node.names]


def is_value_given(node):
    """Whether the node gives an object a value."""
    return isinstance(node, ast.Attribute) and isinstance(node.ctx, ast.Store)


class LanguageTest(unittest.TestCase):
    def test_files(self):
        names = [name for name, text in package_files()]
        self.assertIn("__init__.py", names)
        for name in names:
            self.assertRegex(name, r"^[a-z_][a-z0-9_]*\.py$")

    def test_signs_and_sizes(self):
        for name, text in package_files():
            self.assertRegex(text, r"\A[\n -~]*\Z", name)
            self.assertLessEqual(len(text.splitlines()), 400, name)
            for row in text.splitlines():
                self.assertLessEqual(len(row), 120, (name, row))
            for node in nodes_of(text):
                if isinstance(node, ast.FunctionDef):
                    self.assertLessEqual(node.end_lineno - node.lineno + 1, 40, (name, node.name))

    def test_words(self):
        for name, text in package_files():
            self.assertIsNone(BARRED_WORDS.search(text), name)

    def test_kinds_of_statements_and_expressions(self):
        for name, text in package_files():
            for node in nodes_of(text):
                self.assertIn(node.__class__.__name__, ALLOWED_NODES, (name, getattr(node, "lineno", 0)))
                if isinstance(node, ast.Assign):
                    self.assertIsInstance(node.targets[0], (ast.Name, ast.Attribute, ast.Subscript), name)
                    self.assertEqual(len(node.targets), 1, (name, node.lineno))
                if isinstance(node, (ast.For, ast.While)):
                    self.assertEqual(node.orelse, [], (name, node.lineno))
                if isinstance(node, ast.Constant):
                    self.assertIsInstance(node.value, (int, str, bool, None.__class__), (name, node.lineno))

    def test_imports_are_the_packages_own(self):
        for name, text in package_files():
            for node in nodes_of(text):
                if isinstance(node, ast.ImportFrom):
                    self.assertEqual(node.level, 0, name)
                    self.assertTrue(node.module.startswith("fugueanswers."), (name, node.module))

    def test_names(self):
        every_built_in = set(dir(__builtins__) if not isinstance(__builtins__, dict) else __builtins__)
        for name, text in package_files():
            for node in nodes_of(text):
                if isinstance(node, ast.Name):
                    self.assertFalse(node.id.startswith("_"), (name, node.id))
                    self.assertNotIn(node.id, every_built_in - ALLOWED_BUILT_IN, (name, node.lineno))
                    if isinstance(node.ctx, ast.Store):
                        self.assertNotIn(node.id, every_built_in, (name, node.lineno))
                if isinstance(node, ast.arg):
                    self.assertNotIn(node.arg, every_built_in, (name, node.lineno))
                    self.assertIsNone(node.annotation, (name, node.lineno))
                if isinstance(node, ast.FunctionDef):
                    self.assertEqual([node.decorator_list, node.returns], [[], None], (name, node.lineno))
                    self.assertEqual([node.args.vararg, node.args.kwarg, node.args.kwonlyargs], [None, None, []], name)

    def test_names_that_are_not_used(self):
        for name, text in package_files():
            for node in nodes_of(text):
                for word in (getattr(node, "id", ""), getattr(node, "attr", ""), getattr(node, "arg", "")):
                    self.assertNotIn(word, BARRED_NAMES, (name, getattr(node, "lineno", 0)))
                if isinstance(node, ast.FunctionDef) and node.name != "__init__":
                    self.assertRegex(node.name, r"^[a-z][a-z0-9_]*$", name)
                    self.assertNotIn(node.name, BARRED_NAMES, name)

    def test_the_top_of_a_file_holds_plain_values_bound_once(self):
        for name, text in package_files():
            body = ast.parse(text).body
            self.assertIsInstance(body[0].value, ast.Constant, name)
            for node in body[1:]:
                self.assertIsInstance(node, (ast.ImportFrom, ast.FunctionDef, ast.ClassDef, ast.Assign), name)
                if isinstance(node, ast.Assign):
                    self.assertTrue(is_plain_value(node.value), (name, node.lineno))
            bound = names_at_top(text) + [drawn for file, drawn in names_drawn(text)]
            self.assertEqual(len(bound), len(set(bound)), name)

    def test_locals_are_not_called_like_what_the_file_has_at_its_top(self):
        for name, text in package_files():
            top = names_at_top(text) + [drawn for file, drawn in names_drawn(text)]
            for function in nodes_of(text):
                if isinstance(function, ast.FunctionDef):
                    for node in ast.walk(function):
                        bound = getattr(node, "arg", None)
                        if isinstance(node, ast.Name) and isinstance(node.ctx, ast.Store):
                            bound = node.id
                        self.assertNotIn(bound, top, (name, function.name))

    def test_names_are_drawn_from_the_file_that_defines_them_and_in_no_ring(self):
        texts = dict(package_files())
        drawn_from = {}
        for name, text in texts.items():
            for file, drawn in names_drawn(text):
                self.assertIn(drawn, names_at_top(texts[file]), (name, drawn))
            drawn_from[name] = {file for file, drawn in names_drawn(text)}
        while drawn_from:
            ends = [name for name, files in drawn_from.items() if not files & set(drawn_from)]
            self.assertNotEqual(ends, [], drawn_from)
            for name in ends:
                drawn_from.pop(name)

    def test_no_name_is_a_method_and_a_value(self):
        methods, values = [], []
        for name, text in package_files():
            for node in nodes_of(text):
                if isinstance(node, ast.ClassDef):
                    of_class = [part.name for part in node.body if isinstance(part, ast.FunctionDef)]
                    self.assertEqual(len(of_class), len(set(of_class)), node.name)
                    methods.extend(of_class)
                if is_value_given(node):
                    values.append(node.attr)
        self.assertEqual(set(methods) & set(values), set())
        of_python = set(dir("") + dir(0) + dir([]) + dir({}) + dir(set()) + dir(b"")) - {"__init__"}
        self.assertEqual(set(methods + values) & of_python, set())

    def test_methods_of_pythons_values(self):
        own = set()
        for name, text in package_files():
            own.update([node.name for node in nodes_of(text) if isinstance(node, ast.FunctionDef)])
        for name, text in package_files():
            for node in nodes_of(text):
                if isinstance(node, ast.Call) and isinstance(node.func, ast.Attribute):
                    self.assertIn(node.func.attr, METHODS_OF_PYTHON | own, (name, node.lineno))

    def test_is_stands_beside_none_true_and_false(self):
        for name, text in package_files():
            for node in nodes_of(text):
                if isinstance(node, ast.Compare) and isinstance(node.ops[0], (ast.Is, ast.IsNot)):
                    self.assertIn(getattr(node.comparators[0], "value", 0), (None, True, False), (name, node.lineno))
                    self.assertIsInstance(node.comparators[0], ast.Constant, (name, node.lineno))

    def test_pythons_own_are_called_not_kept(self):
        for name, text in package_files():
            for node, parent in children_by_parent(text):
                if isinstance(node, ast.Name) and node.id in ALLOWED_BUILT_IN:
                    self.assertEqual(node, getattr(parent, "func", None), (name, node.lineno))

    def test_walked_at_once_and_sets_not_kept(self):
        for name, text in package_files():
            for node, parent in children_by_parent(text):
                walked = getattr(parent, "iter", None) == node or called_name(parent) in WALKERS
                if called_name(node) in WALKED_AT_ONCE:
                    self.assertTrue(walked, (name, node.lineno))
                if called_name(node) in ("set", "frozenset"):
                    self.assertIn(called_name(parent), ("sorted", "len"), (name, node.lineno))

    def test_comprehensions_have_one_for_and_at_most_one_if(self):
        for name, text in package_files():
            for node in nodes_of(text):
                if isinstance(node, ast.ListComp):
                    self.assertEqual(len(node.generators), 1, (name, node.lineno))
                    self.assertLessEqual(len(node.generators[0].ifs), 1, (name, node.lineno))

    def test_classes_are_plain_and_only_called(self):
        every_class = [node.name for name, text in package_files() for node in nodes_of(text)
                       if isinstance(node, ast.ClassDef)]
        for name, text in package_files():
            for node, parent in children_by_parent(text):
                if isinstance(node, ast.ClassDef):
                    self.assertIsInstance(parent, ast.Module, node.name)
                    self.assertEqual([node.bases, node.keywords, node.decorator_list], [[], [], []], node.name)
                    self.assertEqual([part for part in node.body[1:] if not isinstance(part, ast.FunctionDef)], [])
                if isinstance(node, ast.Name) and node.id in every_class:
                    self.assertEqual(node, getattr(parent, "func", None), (name, node.lineno))

    def test_init_is_the_one_method_with_two_underscores_and_gives_back_nothing(self):
        for name, text in package_files():
            for node in nodes_of(text):
                if isinstance(node, ast.FunctionDef) and node.name.startswith("_"):
                    self.assertEqual(node.name, "__init__", name)
                    self.assertEqual([part for part in ast.walk(node) if isinstance(part, ast.Return)], [], name)

    def test_no_error_is_taken_and_each_is_made_on_the_spot(self):
        for name, text in package_files():
            for node in nodes_of(text):
                self.assertNotIsInstance(node, ast.Try, name)
                if isinstance(node, ast.Raise):
                    self.assertIsNotNone(called_name(node.exc), (name, node.lineno))

    def test_what_a_loop_walks_is_not_changed_in_it(self):
        for name, text in package_files():
            for loop in [node for node in nodes_of(text) if isinstance(node, ast.For)]:
                walked = [ast.unparse(node) for node in ast.walk(loop.iter)
                          if isinstance(node, (ast.Name, ast.Attribute))]
                for node in [inner for part in loop.body for inner in ast.walk(part)]:
                    if isinstance(node, ast.Call) and isinstance(node.func, ast.Attribute):
                        if node.func.attr in CHANGES:
                            self.assertNotIn(ast.unparse(node.func.value), walked, (name, node.lineno))
                    if isinstance(node, ast.Subscript) and isinstance(node.ctx, ast.Store):
                        self.assertNotIn(ast.unparse(node.value), walked, (name, node.lineno))

    def test_calls_by_themselves_keywords_and_powers(self):
        for name, text in package_files():
            for node in nodes_of(text):
                if isinstance(node, ast.Expr):
                    self.assertIsInstance(node.value, (ast.Call, ast.Constant), (name, node.lineno))
                if isinstance(node, ast.keyword):
                    self.assertIn(node.arg, ("key", "reverse", "default", "start", "strict"), name)
                if isinstance(node, ast.FormattedValue):
                    self.assertIsInstance(node.value, ast.Name, (name, node.lineno))
                    self.assertIsNone(node.format_spec, (name, node.lineno))
                self.assertNotIsInstance(node, (ast.Pow, ast.Lambda), name)

    def test_texts(self):
        for name, text in package_files():
            self.assertNotIn("\\", text, name)
            for node in nodes_of(text):
                if isinstance(node, ast.Constant) and isinstance(node.value, str):
                    self.assertNotIn("%", node.value, (name, node.lineno))


if __name__ == "__main__":
    unittest.main()
