"""The rules of the language, as far as tests/language_rules.py looks for them."""

import ast
import pathlib
import re
import unittest

from tests.language_rules import PACKAGE, faults_of_text, faults_of_tree

FOLDER = pathlib.Path(__file__).resolve().parent.parent / PACKAGE
FILES = sorted(path for path in FOLDER.iterdir() if path.name != "__pycache__")
TREES = {path.stem: ast.parse(path.read_text(encoding="ascii")) for path in FILES}


def own_methods():
    """The names of all methods of the package."""
    classes = [node for tree in TREES.values() for node in ast.walk(tree) if isinstance(node, ast.ClassDef)]
    return {part.name for one in classes for part in one.body if isinstance(part, ast.FunctionDef)}


def imports(tree):
    """The pairs of a module of the package and a name that a file imports from it."""
    return [(node.module.split(".")[1], alias.name) for node in tree.body
            if isinstance(node, ast.ImportFrom) and node.module.startswith(PACKAGE + ".") for alias in node.names]


def bound(tree):
    """The names that a file itself defines at module level."""
    names = {node.name for node in tree.body if isinstance(node, (ast.FunctionDef, ast.ClassDef))}
    return names | {node.targets[0].id for node in tree.body if isinstance(node, ast.Assign)}


class Rules(unittest.TestCase):
    def test_the_folder_contains_plain_files_only(self):
        for path in FILES:
            self.assertTrue(re.fullmatch(r"[a-z0-9_]+\.py", path.name), path.name)

    def test_each_file(self):
        methods = own_methods()
        for path in FILES:
            with self.subTest(path.name):
                self.assertEqual(faults_of_text(path.read_text()), [])
                self.assertEqual(faults_of_tree(TREES[path.stem], methods), [])

    def test_names_are_imported_from_the_file_that_defines_them(self):
        for name, tree in TREES.items():
            for module, imported in imports(tree):
                with self.subTest(f"{name} imports {imported}"):
                    self.assertIn(imported, bound(TREES[module]))

    def test_no_two_files_import_from_each_other(self):
        left = {name: {module for module, _ in imports(tree)} for name, tree in TREES.items()}
        while left:
            free = [name for name in left if not left[name] & set(left)]
            self.assertTrue(free, f"a circle among {sorted(left)}")
            for name in free:
                del left[name]

    def test_a_slip_is_found(self):
        slips = ["import os", "x = 1.5", "def f():\n    return 1 / 2", "def f(xs):\n    return any(x for x in xs)",
                 "def f(xs):\n    print(xs)", "def f(xs):\n    return xs.encodes()", "def f(id):\n    return 1",
                 "def f(xs):\n    for x in {1}:\n        pass", "from math import sin", "x = 'a type'",
                 "def f(n):\n    return 2 ** n", "@f\ndef g():\n    return 1", "f()",
                 "def f(xs):\n    return len({*xs})", "def f(xs):\n    [x] = xs", "def f(n):\n    return [*range(n)]"]
        for slip in slips:
            with self.subTest(slip):
                self.assertNotEqual(faults_of_tree(ast.parse(slip), set()), [])
