"""The package's own files keep to the plain form that the project asks of them."""

import ast
import inspect
import os
import subprocess
import sys
import unittest

import fewcoins
from fewcoins import seeds

FOLDER = os.path.dirname(os.path.abspath(fewcoins.__file__))
OWN_NAMES = {"len", "range", "enumerate", "zip", "min", "max", "sum", "abs", "sorted", "reversed", "int", "str", "bool",
             "list", "tuple", "dict", "set", "isinstance", "ord", "repr", "any", "all", "divmod", "Exception",
             "ValueError"}
OWN_METHODS = {"append", "bit_length", "copy", "extend", "get", "index", "insert", "items", "join", "keys", "pop",
               "remove", "reverse", "values"}
NODES = (ast.Module, ast.FunctionDef, ast.ClassDef, ast.arguments, ast.arg, ast.ImportFrom, ast.alias, ast.Assign,
         ast.AugAssign, ast.If, ast.While, ast.For, ast.Return, ast.Break, ast.Continue, ast.Pass, ast.Raise, ast.Expr,
         ast.Call, ast.Name, ast.Constant, ast.List, ast.Tuple, ast.Dict, ast.Attribute, ast.Subscript, ast.Slice,
         ast.BinOp, ast.UnaryOp, ast.BoolOp, ast.Compare, ast.IfExp, ast.ListComp, ast.comprehension,
         ast.expr_context, ast.operator, ast.unaryop, ast.boolop, ast.cmpop)


def package_files():
    return sorted(name for name in os.listdir(FOLDER) if name != "__pycache__")


def text_of(name):
    with open(os.path.join(FOLDER, name), encoding="utf-8") as file:
        return file.read()


def trees():
    return [(name, ast.parse(text_of(name))) for name in package_files()]


def nodes(kind):
    return [(name, node) for name, tree in trees() for node in ast.walk(tree) if isinstance(node, kind)]


class FormTest(unittest.TestCase):
    def test_only_plain_files(self):
        self.assertIn("__init__.py", package_files())
        for name in package_files():
            self.assertRegex(name, r"^(__init__|[a-z][a-z0-9_]*)\.py$")

    def test_size_and_signs(self):
        for name in package_files():
            lines = text_of(name).split("\n")
            self.assertLessEqual(len(lines), 399, name)
            for line in lines:
                self.assertRegex(line, r"^[ -~]{0,120}$", name)

    def test_functions_are_small_and_plain(self):
        for name, node in nodes(ast.FunctionDef):
            self.assertLessEqual(node.end_lineno - node.lineno + 1, 40, (name, node.name))
            self.assertEqual((node.args.vararg, node.args.kwarg, node.args.kwonlyargs), (None, None, []))
            self.assertEqual(node.decorator_list, [])

    def test_only_the_plain_part_of_python(self):
        for name, node in nodes(ast.AST):
            self.assertIsInstance(node, NODES, name)
            self.assertNotIsInstance(node, (ast.Div, ast.MatMult, ast.Pow), name)
            if isinstance(node, ast.Constant):
                self.assertIn(type(node.value), (int, str, bool, type(None)), name)
            if isinstance(node, (ast.For, ast.While)):
                self.assertEqual(node.orelse, [], name)
            if isinstance(node, ast.Assign):
                self.assertEqual(len(node.targets), 1, name)

    def test_imports_the_package_alone(self):
        for name, node in nodes((ast.Import, ast.ImportFrom)):
            self.assertIsInstance(node, ast.ImportFrom, name)
            self.assertEqual(node.level, 0, name)
            self.assertTrue(node.module.startswith("fewcoins."), name)

    def test_names_are_plain_and_not_pythons_own(self):
        taken = set(dir(__builtins__) if not isinstance(__builtins__, dict) else __builtins__)
        for name, node in nodes((ast.Name, ast.arg)):
            word = node.id if isinstance(node, ast.Name) else node.arg
            self.assertFalse(word.startswith("_"), (name, word))
            if isinstance(node, ast.arg) or isinstance(node.ctx, ast.Store):
                self.assertNotIn(word, taken, name)
            elif word in taken:
                self.assertIn(word, OWN_NAMES, name)

    def test_methods_of_pythons_own_values(self):
        foreign = {word for kind in (int, str, list, tuple, dict, set, bytes) for word in vars(kind)} - OWN_METHODS
        for name, node in nodes(ast.Attribute):
            self.assertNotIn(node.attr, foreign, name)

    def test_importing_draws_in_nothing_else(self):
        script = ("import sys; before = set(sys.modules); import fewcoins.seeds; "
                  "print(sorted(name for name in set(sys.modules) - before if name.split('.')[0] != 'fewcoins'))")
        folder = os.path.dirname(FOLDER)
        told = subprocess.run([sys.executable, "-c", script], cwd=folder, capture_output=True, text=True, check=True)
        self.assertEqual(told.stdout.strip(), "[]")


class InterfaceTest(unittest.TestCase):
    def test_answers_takes_calls(self):
        self.assertEqual(str(inspect.signature(seeds.answers)), "(calls)")
        self.assertEqual(seeds.answers.__module__, "fewcoins.seeds")
