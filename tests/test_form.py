"""The package's files keep to the form that the program is written in."""

import ast
import builtins
import pathlib
import re
import unittest

PACKAGE = pathlib.Path(__file__).resolve().parent.parent / "pointgroups"
NAME = re.compile(r"[A-Za-z][A-Za-z0-9_]*")
OUT_WORDS = re.compile(
    r"\b(type|typing|typing_extensions|enum|Enum|IntEnum|StrEnum|Flag|IntFlag|Generic|Protocol|ABC|ABCMeta"
    r"|namedtuple|NamedTuple|TypedDict|TYPE_CHECKING|abstractmethod)\b|dataclass|overload|contextmanager")
OUT_NODES = (
    ast.With, ast.Match, ast.Delete, ast.Global, ast.Nonlocal, ast.Assert, ast.Yield, ast.YieldFrom, ast.Await,
    ast.AsyncFunctionDef, ast.AsyncFor, ast.AsyncWith, ast.Div, ast.SetComp, ast.DictComp, ast.GeneratorExp,
    ast.NamedExpr, ast.Starred, ast.Import, ast.AnnAssign, ast.MatMult)
BUILTINS = (
    "len range enumerate zip min max sum abs sorted reversed int str bool list tuple dict set frozenset isinstance "
    "ord repr any all divmod Exception ValueError TypeError KeyError IndexError LookupError ZeroDivisionError "
    "ArithmeticError OverflowError RuntimeError NotImplementedError AttributeError StopIteration").split()

METHODS = (
    "append clear copy count endswith extend find get index insert isalnum isalpha isdigit islower isspace isupper "
    "items join keys ljust lower lstrip partition pop remove replace reverse rfind rjust rpartition rsplit rstrip "
    "setdefault split splitlines startswith strip update upper values zfill bit_length").split()
KEYWORDS = {"sorted": ("key", "reverse"), "min": ("key", "default"), "max": ("key", "default"), "sum": ("start",),
            "enumerate": ("start",), "zip": ("strict",)}


def files():
    return sorted(path for path in PACKAGE.rglob("*") if path.is_file() and "__pycache__" not in path.parts)


def trees():
    return [(path.name, ast.parse(path.read_text())) for path in files()]


def bound_names(tree):
    names = []
    for node in ast.walk(tree):
        if isinstance(node, ast.Name) and isinstance(node.ctx, ast.Store):
            names.append(node.id)
        elif isinstance(node, ast.arg):
            names.append(node.arg)
        elif isinstance(node, (ast.FunctionDef, ast.ClassDef)):
            names.append(node.name)
        elif isinstance(node, ast.alias):
            names.append(node.name)
    return names


def all_nodes(sort):
    return [(name, node) for name, tree in trees() for node in ast.walk(tree) if isinstance(node, sort)]


def own_methods():
    return {inner.name for name, node in all_nodes(ast.ClassDef) for inner in node.body
            if isinstance(inner, ast.FunctionDef)}


def own_values():
    return {node.attr for name, node in all_nodes(ast.Attribute) if isinstance(node.ctx, ast.Store)}


def drawn_from():
    drawn = {}
    for path in files():
        found = [node for node in ast.walk(ast.parse(path.read_text())) if isinstance(node, ast.ImportFrom)]
        drawn["pointgroups." + path.stem] = [node.module for node in found]
    return drawn


class FormTest(unittest.TestCase):
    def test_only_plain_files(self):
        self.assertTrue(files())
        for path in files():
            self.assertRegex(path.name, r"^([a-z][a-z0-9_]*|__init__)\.py$")

    def test_sizes_and_signs(self):
        for path in files():
            lines = path.read_bytes().decode("ascii").split("\n")
            self.assertLessEqual(len(lines), 400, path.name)
            for line in lines:
                self.assertRegex(line, r"^[ -~]{0,120}$", path.name)

    def test_functions_are_short_and_plain(self):
        for name, tree in trees():
            for node in ast.walk(tree):
                if isinstance(node, ast.FunctionDef):
                    self.assertLessEqual(node.end_lineno - node.lineno + 1, 40, (name, node.name))
                    self.assertEqual(node.decorator_list, [], (name, node.name))
                    self.assertIsNone(node.args.vararg or node.args.kwarg, (name, node.name))

    def test_no_words_that_are_out(self):
        for path in files():
            self.assertIsNone(OUT_WORDS.search(path.read_text()), path.name)

    def test_no_statements_or_values_that_are_out(self):
        for name, tree in trees():
            for node in ast.walk(tree):
                self.assertNotIsInstance(node, OUT_NODES, name)
                if isinstance(node, ast.Constant):
                    self.assertNotIsInstance(node.value, (float, bytes, complex), name)

    def test_imports_are_the_packages_own(self):
        for name, tree in trees():
            for node in ast.walk(tree):
                if isinstance(node, ast.ImportFrom):
                    self.assertTrue(node.level == 0 and node.module.startswith("pointgroups."), name)

    def test_names(self):
        for name, tree in trees():
            bound = bound_names(tree)
            for word in bound:
                self.assertTrue(word == "__init__" or NAME.fullmatch(word), (name, word))
                self.assertNotIn(word, BUILTINS, name)
            for node in ast.walk(tree):
                if isinstance(node, ast.Name) and isinstance(node.ctx, ast.Load):
                    self.assertTrue(node.id in bound or node.id in BUILTINS, (name, node.id))
                if isinstance(node, (ast.arg, ast.Name)):
                    word = node.arg if isinstance(node, ast.arg) else node.id
                    self.assertTrue(isinstance(getattr(node, "ctx", None), ast.Load) or word not in dir(builtins),
                                    (name, word))

    def test_no_local_is_called_like_a_class_or_an_import(self):
        for name, tree in trees():
            taken = [node.name for node in tree.body if isinstance(node, ast.ClassDef)]
            taken += [alias.name for node in tree.body if isinstance(node, ast.ImportFrom) for alias in node.names]
            for word in taken:
                self.assertEqual(bound_names(tree).count(word), 1, (name, word))

    def test_a_name_is_a_method_or_a_value(self):
        self.assertEqual(own_methods() & own_values(), set())

    def test_methods_are_own_or_allowed(self):
        for name, node in all_nodes(ast.Call):
            if isinstance(node.func, ast.Attribute):
                self.assertIn(node.func.attr, sorted(own_methods()) + METHODS, name)

    def test_keywords(self):
        for name, node in all_nodes(ast.Call):
            called = node.func.id if isinstance(node.func, ast.Name) else ""
            for keyword in node.keywords:
                self.assertIn(keyword.arg, KEYWORDS.get(called, ()), (name, called))

    def test_exponents_are_written(self):
        for name, node in all_nodes(ast.BinOp):
            if isinstance(node.op, ast.Pow):
                self.assertIsInstance(node.right, ast.Constant, name)
                self.assertTrue(0 <= node.right.value <= 64, name)

    def test_no_two_files_draw_from_one_another(self):
        drawn = drawn_from()
        while drawn:
            free = [name for name in drawn if not any(other in drawn for other in drawn[name])]
            self.assertTrue(free, drawn)
            for name in free:
                drawn.pop(name)

    def test_one_target_and_one_for(self):
        for name, node in all_nodes(ast.Assign):
            self.assertEqual(len(node.targets), 1, name)
            self.assertNotIsInstance(node.targets[0], (ast.Tuple, ast.List), name)
        for name, node in all_nodes(ast.ListComp):
            self.assertEqual(len(node.generators), 1, name)
            self.assertLessEqual(len(node.generators[0].ifs), 1, name)
        for name, node in all_nodes((ast.For, ast.While)):
            self.assertEqual(node.orelse, [], name)
