"""The files of the package: what stands in which, and the limits of their form."""

import ast
import inspect
import unittest
from importlib import import_module
from pathlib import Path

from tests.helping import INTERFACE, METHODS, function_called, parameters_of

PACKAGE = Path(__file__).resolve().parent.parent / "oldornew"
LIBRARY = ("heapq", "math", "itertools", "collections", "__future__")


def sources():
    return [(path.name, path.read_text(encoding="utf-8")) for path in sorted(PACKAGE.rglob("*.py"))]


def imported_files(tree):
    return [node.module for node in ast.walk(tree) if isinstance(node, ast.ImportFrom)]


def needed_by(file):
    """The files of the package that a file imports, and those that these import, and so on."""
    found, left = set(), [file]
    while left:
        text = (PACKAGE / (left.pop().split(".")[1] + ".py")).read_text(encoding="utf-8")
        for needed in imported_files(ast.parse(text)):
            if needed.startswith("oldornew.") and needed not in found:
                found.add(needed)
                left.append(needed)
    return found


class TestInterface(unittest.TestCase):
    def test_each_function_is_defined_in_its_file(self):
        for file, functions in INTERFACE.items():
            tree = ast.parse((PACKAGE / (file + ".py")).read_text(encoding="utf-8"))
            defined = [node.name for node in tree.body if isinstance(node, ast.FunctionDef)]
            for name in functions:
                with self.subTest(name):
                    self.assertIn(name, defined)
                    self.assertEqual(function_called(name).__module__, "oldornew." + file)

    def test_arguments_have_the_names_of_the_document(self):
        for functions in INTERFACE.values():
            for name in functions:
                with self.subTest(name):
                    given = inspect.signature(function_called(name)).parameters
                    self.assertEqual(list(given), parameters_of(name))
                    for label in given.values():
                        self.assertEqual(label.kind, inspect.Parameter.POSITIONAL_OR_KEYWORD)
                        self.assertIs(label.default, inspect.Parameter.empty)

    def test_the_class_defines_its_methods_itself(self):
        tree = ast.parse((PACKAGE / "board.py").read_text(encoding="utf-8"))
        (defined,) = [node for node in tree.body if isinstance(node, ast.ClassDef) and node.name == "Board"]
        given = {node.name: [arg.arg for arg in node.args.args] for node in defined.body
                 if isinstance(node, ast.FunctionDef)}
        for name, labels in METHODS.items():
            with self.subTest(name):
                self.assertEqual(given[name], ["self", *labels.split()])
        self.assertEqual(given["__init__"], ["self", "chart", "name"])
        self.assertEqual(import_module("oldornew.board").Board.__bases__, (object,))

    def test_each_file_needs_only_those_ahead_of_it(self):
        order = ["oldornew." + file for file in ("errors", *INTERFACE)]
        for at, file in enumerate(order):
            import_module(file)
            with self.subTest(file):
                self.assertFalse(needed_by(file) & set(order[at:]))


class TestForm(unittest.TestCase):
    def test_lines_and_files_are_short_and_plain(self):
        for name, text in sources():
            with self.subTest(name):
                self.assertTrue(text.isascii())
                self.assertNotIn("\t", text)
                self.assertLessEqual(len(text.splitlines()), 399)
                self.assertLessEqual(max(map(len, text.splitlines()), default=0), 120)

    def test_functions_are_short(self):
        for name, text in sources():
            for node in ast.walk(ast.parse(text)):
                if isinstance(node, ast.FunctionDef):
                    with self.subTest(name + " " + node.name):
                        self.assertLessEqual(node.end_lineno - node.lineno + 1, 40)

    def test_nothing_from_outside_is_imported(self):
        for name, text in sources():
            tree = ast.parse(text)
            if name != "__main__.py":
                self.assertFalse([node for node in ast.walk(tree) if isinstance(node, ast.Import)])
            for needed in imported_files(tree):
                with self.subTest(name):
                    self.assertIn(needed.split(".")[0], ("oldornew", *LIBRARY))
