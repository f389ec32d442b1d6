"""The package's own files keep to the plain form that the project asks of them."""

import ast
import inspect
import os
import re
import subprocess
import sys
import unittest

import fewcoins
from fewcoins import seeds

FOLDER = os.path.dirname(os.path.abspath(fewcoins.__file__))
OWN_NAMES = {"len", "range", "enumerate", "zip", "min", "max", "sum", "abs", "sorted", "reversed", "int", "str", "bool",
             "list", "tuple", "dict", "set", "isinstance", "ord", "repr", "any", "all", "divmod", "Exception",
             "ValueError"}
OWN_METHODS = {"append", "bit_length", "copy", "extend", "get", "index", "insert", "items", "join", "keys", "pop",
               "remove", "reverse", "values"}
NODES = (ast.Module, ast.FunctionDef, ast.ClassDef, ast.arguments, ast.arg, ast.ImportFrom, ast.alias, ast.Assign,
         ast.AugAssign, ast.If, ast.While, ast.For, ast.Return, ast.Break, ast.Continue, ast.Pass, ast.Raise, ast.Expr,
         ast.Call, ast.Name, ast.Constant, ast.List, ast.Tuple, ast.Dict, ast.Attribute, ast.Subscript, ast.Slice,
         ast.BinOp, ast.UnaryOp, ast.BoolOp, ast.Compare, ast.IfExp, ast.ListComp, ast.comprehension,
         ast.expr_context, ast.operator, ast.unaryop, ast.boolop, ast.cmpop)
# Words that stand nowhere in a file, in remarks and texts either.
OUT_WORDS = ("type typing typing_extensions enum Enum IntEnum StrEnum Flag IntFlag Generic Protocol ABC ABCMeta "
             "namedtuple NamedTuple TypedDict TYPE_CHECKING abstractmethod").split()
OUT_PARTS = ("dataclass", "overload", "contextmanager")
OUT_NAMES = {"register", "mro", "elements", "open", "input", "version_info", "with_traceback", "add_note"}
# What is walked on the spot, and what it may stand in as the first thing.
WALKED = {"zip", "enumerate", "reversed", "range"}
WALKERS = {"list", "tuple", "dict", "sorted", "sum", "any", "all", "enumerate", "zip", "min", "max"}


def package_files():
    return sorted(name for name in os.listdir(FOLDER) if name != "__pycache__")


def text_of(name):
    with open(os.path.join(FOLDER, name), encoding="utf-8") as file:
        return file.read()


def trees():
    return [(name, ast.parse(text_of(name))) for name in package_files()]


def nodes(kind):
    return [(name, node) for name, tree in trees() for node in ast.walk(tree) if isinstance(node, kind)]


def is_call(node, names):
    return isinstance(node, ast.Call) and isinstance(node.func, ast.Name) and node.func.id in names


def methods(tree):
    classes = [node for node in tree.body if isinstance(node, ast.ClassDef)]
    return [node.name for each in classes for node in each.body]


def stored_values(tree):
    return [node.attr for node in ast.walk(tree) if isinstance(node, ast.Attribute) and isinstance(node.ctx, ast.Store)]


def top_names(tree):
    defs = [node.name for node in tree.body if isinstance(node, (ast.FunctionDef, ast.ClassDef))]
    return defs + [node.targets[0].id for node in tree.body if isinstance(node, ast.Assign)]


def drawn_from(tree):
    rows = [node for node in tree.body if isinstance(node, ast.ImportFrom)]
    return [(row.module.split(".")[1] + ".py", each.name) for row in rows for each in row.names]


class FormTest(unittest.TestCase):
    def test_only_plain_files(self):
        self.assertIn("__init__.py", package_files())
        for name in package_files():
            self.assertRegex(name, r"^(__init__|[a-z][a-z0-9_]*)\.py$")

    def test_size_and_signs(self):
        for name in package_files():
            lines = text_of(name).split("\n")
            self.assertLessEqual(len(lines), 399, name)
            for line in lines:
                self.assertRegex(line, r"^[ -~]{0,120}$", name)

    def test_functions_are_small_and_plain(self):
        for name, node in nodes(ast.FunctionDef):
            self.assertLessEqual(node.end_lineno - node.lineno + 1, 40, (name, node.name))
            self.assertEqual((node.args.vararg, node.args.kwarg, node.args.kwonlyargs), (None, None, []))
            self.assertEqual(node.decorator_list, [])

    def test_only_the_plain_part_of_python(self):
        for name, node in nodes(ast.AST):
            self.assertIsInstance(node, NODES, name)
            self.assertNotIsInstance(node, (ast.Div, ast.MatMult, ast.Pow), name)
            if isinstance(node, ast.Constant):
                self.assertIn(type(node.value), (int, str, bool, type(None)), name)
            if isinstance(node, (ast.For, ast.While)):
                self.assertEqual(node.orelse, [], name)
            if isinstance(node, ast.Assign):
                self.assertEqual(len(node.targets), 1, name)

    def test_imports_the_package_alone(self):
        for name, node in nodes((ast.Import, ast.ImportFrom)):
            self.assertIsInstance(node, ast.ImportFrom, name)
            self.assertEqual(node.level, 0, name)
            self.assertTrue(node.module.startswith("fewcoins."), name)

    def test_names_are_plain_and_not_pythons_own(self):
        taken = set(dir(__builtins__) if not isinstance(__builtins__, dict) else __builtins__)
        for name, node in nodes((ast.Name, ast.arg)):
            word = node.id if isinstance(node, ast.Name) else node.arg
            self.assertFalse(word.startswith("_"), (name, word))
            if isinstance(node, ast.arg) or isinstance(node.ctx, ast.Store):
                self.assertNotIn(word, taken, name)
            elif word in taken:
                self.assertIn(word, OWN_NAMES, name)

    def test_methods_of_pythons_own_values(self):
        foreign = {word for kind in (int, str, list, tuple, dict, set, bytes) for word in vars(kind)} - OWN_METHODS
        for name, node in nodes(ast.Attribute):
            self.assertNotIn(node.attr, foreign, name)

    def test_statements_by_themselves_are_calls(self):
        for name, tree in trees():
            for node in ast.walk(tree):
                if isinstance(node, ast.Expr) and node != tree.body[0]:
                    self.assertIsInstance(node.value, ast.Call, (name, node.lineno))

    def test_words_that_are_out(self):
        for name in package_files():
            text = text_of(name)
            words = set(re.findall(r"[A-Za-z0-9_]+", text))
            self.assertEqual(words & (set(OUT_WORDS) | OUT_NAMES), set(), name)
            self.assertEqual([part for part in OUT_PARTS if part in text], [], name)

    def test_is_stands_beside_none_true_and_false(self):
        for name, node in nodes(ast.Compare):
            if any(isinstance(each, (ast.Is, ast.IsNot)) for each in node.ops):
                beside = [node.left] + node.comparators
                self.assertTrue(any(isinstance(each, ast.Constant) and each.value in (None, True, False)
                                    for each in beside), (name, node.lineno))

    def test_no_name_is_a_method_and_a_value(self):
        found = trees()
        calls = {word for name, tree in found for word in methods(tree)}
        values = {word for name, tree in found for word in stored_values(tree)}
        self.assertEqual(calls & values, set())

    def test_each_name_once_and_from_the_file_that_defines_it(self):
        found = dict(trees())
        for name, tree in found.items():
            names = top_names(tree) + [word for file, word in drawn_from(tree)]
            self.assertEqual(len(names), len(set(names)), name)
            for file, word in drawn_from(tree):
                self.assertIn(word, top_names(found[file]), name)

    def test_no_two_files_draw_from_one_another(self):
        left = {name: {file for file, word in drawn_from(tree)} for name, tree in trees()}
        while left:
            free = [name for name in left if not left[name] & set(left)]
            self.assertTrue(free, left)
            left = {name: left[name] for name in left if name not in free}

    def test_locals_are_not_called_like_classes_and_imports(self):
        for name, tree in trees():
            taken = {word for file, word in drawn_from(tree)} | set(top_names(tree))
            for each in [node for node in ast.walk(tree) if isinstance(node, ast.FunctionDef)]:
                for node in ast.walk(each):
                    if isinstance(node, ast.arg) or (isinstance(node, ast.Name) and isinstance(node.ctx, ast.Store)):
                        self.assertNotIn(node.arg if isinstance(node, ast.arg) else node.id, taken, (name, node.lineno))

    def test_walked_on_the_spot(self):
        for name, tree in trees():
            walks = [node.iter for node in ast.walk(tree) if isinstance(node, (ast.For, ast.comprehension))]
            walks += [node.args[0] for node in ast.walk(tree) if is_call(node, WALKERS) and node.args]
            for node in ast.walk(tree):
                if is_call(node, WALKED):
                    self.assertIn(node, walks, (name, node.lineno))

    def test_sets_are_not_kept(self):
        for name, tree in trees():
            inside = [node.args[0] for node in ast.walk(tree) if is_call(node, {"len", "sorted"})]
            for node in ast.walk(tree):
                if is_call(node, {"set", "frozenset"}):
                    self.assertIn(node, inside, (name, node.lineno))

    def test_importing_draws_in_nothing_else(self):
        script = ("import sys; before = set(sys.modules); import fewcoins.seeds; "
                  "print(sorted(name for name in set(sys.modules) - before if name.split('.')[0] != 'fewcoins'))")
        folder = os.path.dirname(FOLDER)
        told = subprocess.run([sys.executable, "-c", script], cwd=folder, capture_output=True, text=True, check=True)
        self.assertEqual(told.stdout.strip(), "[]")


class InterfaceTest(unittest.TestCase):
    def test_answers_takes_calls(self):
        self.assertEqual(str(inspect.signature(seeds.answers)), "(calls)")
        self.assertEqual(seeds.answers.__module__, "fewcoins.seeds")
