"""What can be seen at once of the form that the package's files keep to."""

import ast
import builtins
import pathlib
import re
import unittest
import warnings

PACKAGE = pathlib.Path(__file__).resolve().parent.parent / "parentlines"
FILES = sorted(path for path in PACKAGE.iterdir() if path.name != "__pycache__")
WORDS_LEFT_OUT = (
    "type typing typing_extensions enum Enum IntEnum StrEnum Flag IntFlag Generic Protocol ABC ABCMeta"
    " namedtuple NamedTuple TypedDict TYPE_CHECKING abstractmethod").split()
PARTS_LEFT_OUT = ("dataclass", "overload", "contextmanager")
NODES_LEFT_OUT = (
    ast.With, ast.Match, ast.Global, ast.Nonlocal, ast.Yield, ast.YieldFrom, ast.AsyncFunctionDef, ast.Await,
    ast.GeneratorExp, ast.NamedExpr, ast.Div, ast.Import)
OWN_NAMES = (
    "len range enumerate zip min max sum abs sorted reversed int str bool bytes list tuple dict set frozenset"
    " isinstance ord repr any all divmod Exception ValueError TypeError KeyError IndexError LookupError"
    " ZeroDivisionError ArithmeticError OverflowError RuntimeError NotImplementedError StopIteration").split()
METHODS = (
    "append clear copy count endswith extend find get index insert isalnum isalpha isdigit islower isspace isupper"
    " items join keys ljust lower lstrip partition pop remove replace reverse rfind rjust rpartition rsplit rstrip"
    " setdefault split splitlines startswith strip update upper values zfill bit_length add discard sort"
    " __init__").split()
METHODS_WITH_UNDERSCORES = ("__init__", "__eq__", "__repr__", "__str__", "__len__")


class Form(unittest.TestCase):
    def trees(self):
        for path in FILES:
            with warnings.catch_warnings():
                warnings.simplefilter("error")
                compile(path.read_text(), str(path), "exec")
                yield path, ast.parse(path.read_text())

    def test_plain_files_alone(self):
        self.assertTrue(FILES)
        for path in FILES:
            self.assertRegex(path.name, r"^(__init__|[a-z][a-z0-9]*)\.py$")

    def test_signs_and_sizes(self):
        for path in FILES:
            text = path.read_bytes().decode("ascii")
            self.assertRegex(text, r"^[ -~\n]*$")
            lines = text.split("\n")
            self.assertLessEqual(len(lines), 400, path)
            self.assertLessEqual(max(len(line) for line in lines), 120, path)

    def test_words(self):
        for path in FILES:
            text = path.read_text()
            self.assertFalse(set(re.findall(r"\w+", text)) & set(WORDS_LEFT_OUT), path)
            self.assertFalse([part for part in PARTS_LEFT_OUT if part in text], path)

    def test_imports_are_the_package_s_own(self):
        for path, tree in self.trees():
            for node in ast.walk(tree):
                if isinstance(node, ast.ImportFrom):
                    self.assertIn(node, tree.body)
                    self.assertRegex(node.module, r"^parentlines\.")
                    self.assertEqual(node.level, 0)

    def test_functions_are_small_and_plain(self):
        for path, tree in self.trees():
            for node in ast.walk(tree):
                if isinstance(node, ast.FunctionDef):
                    self.assertLessEqual(node.end_lineno - node.lineno + 1, 40, (path, node.name))
                    self.assertEqual(node.decorator_list, [])
                    self.assertIsNone(node.args.vararg or node.args.kwarg)
                    if node.name not in METHODS_WITH_UNDERSCORES:
                        self.assertFalse(node.name.startswith("_"), (path, node.name))

    def test_nothing_that_is_left_out(self):
        for path, tree in self.trees():
            for node in ast.walk(tree):
                self.assertNotIsInstance(node, NODES_LEFT_OUT, (path, getattr(node, "lineno", 0)))
                if isinstance(node, ast.Constant):
                    self.assertNotIsInstance(node.value, (float, complex))

    def test_names_given_are_not_those_of_python_or_of_the_file_s_imports_and_classes(self):
        for path, tree in self.trees():
            drawn = [name.name for node in tree.body if isinstance(node, ast.ImportFrom) for name in node.names]
            top = drawn + [node.name for node in tree.body if isinstance(node, (ast.ClassDef, ast.FunctionDef))]
            self.assertEqual(len(set(top)), len(top), path)
            given = [node.id for node in ast.walk(tree) if isinstance(node, ast.Name) and
                     isinstance(node.ctx, ast.Store)]
            given += [node.arg for node in ast.walk(tree) if isinstance(node, ast.arg)]
            given += [node.name for node in ast.walk(tree) if isinstance(node, ast.ExceptHandler) and node.name]
            self.assertFalse(set(given) & set(top), path)
            self.assertFalse([name for name in given + top if hasattr(builtins, name)], path)
            self.assertFalse([name for name in given + top if name.startswith("_")], path)

    def test_of_python_s_own_names_these_alone(self):
        for path, tree in self.trees():
            for node in ast.walk(tree):
                if isinstance(node, ast.Name) and hasattr(builtins, node.id):
                    self.assertIn(node.id, OWN_NAMES, path)

    def test_what_is_drawn_in_is_used_and_no_two_files_draw_from_one_another(self):
        drawn = {}
        for path, tree in self.trees():
            rows = [node for node in tree.body if isinstance(node, ast.ImportFrom)]
            drawn[path.stem] = [row.module.split(".")[1] for row in rows]
            used = {node.id for node in ast.walk(tree) if isinstance(node, ast.Name)}
            for row in rows:
                for name in row.names:
                    self.assertIn(name.name, used, path)
                    self.assertIsNone(name.asname)
        left = dict(drawn)
        while left:
            free = [name for name in left if not set(left[name]) & set(left)]
            self.assertTrue(free, left)
            left = {name: left[name] for name in left if name not in free}

    def test_methods_and_values(self):
        methods, values, asked = set(), set(), []
        for path, tree in self.trees():
            for node in ast.walk(tree):
                if isinstance(node, ast.ClassDef):
                    methods |= {row.name for row in node.body if isinstance(row, ast.FunctionDef)}
                if isinstance(node, ast.Attribute):
                    if isinstance(node.ctx, ast.Store):
                        values.add(node.attr)
                    asked.append(node.attr)
        self.assertFalse(methods & values)
        self.assertFalse(set(asked) - methods - values - set(METHODS))

    def test_is_stands_beside_none_true_and_false_alone(self):
        for path, tree in self.trees():
            for node in ast.walk(tree):
                if isinstance(node, ast.Compare) and isinstance(node.ops[0], (ast.Is, ast.IsNot)):
                    self.assertIsInstance(node.comparators[0], ast.Constant, path)
                    self.assertIn(node.comparators[0].value, (None, True, False), path)

    def test_texts(self):
        for path, tree in self.trees():
            for node in ast.walk(tree):
                if isinstance(node, ast.Constant) and isinstance(node.value, str):
                    self.assertNotIn("%", node.value, path)
                if isinstance(node, ast.FormattedValue):
                    self.assertIsNone(node.format_spec, path)

    def test_sets_stand_where_their_order_can_t_be_seen(self):
        for path, tree in self.trees():
            allowed = []
            for node in ast.walk(tree):
                if isinstance(node, ast.Call) and isinstance(node.func, ast.Name) and node.func.id in ("sorted", "len"):
                    allowed += node.args
                if isinstance(node, ast.Compare):
                    allowed += node.comparators
            for node in ast.walk(tree):
                called = isinstance(node, ast.Call) and isinstance(node.func, ast.Name) and node.func.id == "set"
                if called or isinstance(node, (ast.Set, ast.SetComp)):
                    self.assertIn(node, allowed, (path, node.lineno))

    def test_tries(self):
        for path, tree in self.trees():
            for node in [node for node in ast.walk(tree) if isinstance(node, ast.Try)]:
                for row in node.finalbody:
                    self.assertIsInstance(row, ast.AugAssign, (path, row.lineno))
                    self.assertIsInstance(row.value, ast.Attribute, (path, row.lineno))
                for handler in node.handlers:
                    self.assertIsInstance(handler.type, ast.Name, (path, handler.lineno))
                    self.assertNotIn(handler.type.id, ("Exception", "TypeError"), (path, handler.lineno))
                    if handler.type.id in ("ValueError", "LookupError", "IndexError"):
                        calls = [part.func.id for part in ast.walk(node) if isinstance(part, ast.Call)]
                        self.assertFalse(set(calls) - {"int", "str", "len"}, (path, handler.lineno))

    def test_no_keywords_and_no_stars_at_calls(self):
        for path, tree in self.trees():
            for node in ast.walk(tree):
                if isinstance(node, ast.Call):
                    self.assertEqual(node.keywords, [], (path, node.lineno))
                self.assertNotIsInstance(node, ast.Starred, path)
