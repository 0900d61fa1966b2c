"""Point 1: no clock, chance or files. The package draws on nothing but itself, and uses few of Python's own names.

Besides, the names and arguments of the interface.
"""

import ast
import builtins
import importlib
import inspect
import os
import unittest

import forkform

FOLDER = os.path.dirname(os.path.abspath(forkform.__file__))
ALLOWED = [
    "len", "range", "enumerate", "zip", "min", "max", "sum", "abs", "sorted", "reversed", "int", "str", "bool",
    "list", "tuple", "dict", "set", "frozenset", "isinstance", "ord", "repr", "any", "all", "divmod", "Exception",
    "ValueError", "KeyError", "IndexError", "LookupError", "RuntimeError",
]

INTERFACE = [
    ("statements", "is_statement", ["thing"]),
    ("telling", "told_at", ["statement", "settings"]),
    ("telling", "told_with", ["statement", "other", "letter", "value", "settings"]),
    ("forks", "forked", ["statement"]),
    ("asking", "ways", ["statement"]),
    ("asking", "always", ["statement"]),
    ("asking", "same", ["one", "other"]),
    ("asking", "example", ["statement"]),
    ("asking", "count", ["statement"]),
]


def sources():
    for name in sorted(os.listdir(FOLDER)):
        if name != "__pycache__":
            with open(os.path.join(FOLDER, name), encoding="ascii") as file:
                yield name, file.read()


class Package(unittest.TestCase):
    def test_only_python_files(self):
        for name, text in sources():
            self.assertTrue(name.endswith(".py"), name)

    def test_imports_are_its_own(self):
        for name, text in sources():
            for node in ast.walk(ast.parse(text)):
                self.assertNotIsInstance(node, ast.Import, name)
                if isinstance(node, ast.ImportFrom):
                    self.assertEqual(node.level, 0, name)
                    self.assertTrue(node.module.startswith("forkform."), name)

    def test_few_of_pythons_own_names(self):
        for name, text in sources():
            for node in ast.walk(ast.parse(text)):
                if isinstance(node, ast.Name) and hasattr(builtins, node.id):
                    self.assertIn(node.id, ALLOWED, name)

    def test_sizes(self):
        for name, text in sources():
            rows = text.split("\n")
            self.assertLessEqual(len(rows), 400, name)
            self.assertLessEqual(max(len(row) for row in rows), 120, name)
            for node in ast.walk(ast.parse(text)):
                if isinstance(node, ast.FunctionDef):
                    self.assertLessEqual(node.end_lineno - node.lineno + 1, 40, node.name)


class Interface(unittest.TestCase):
    def test_names_and_arguments(self):
        for file, name, arguments in INTERFACE:
            function = getattr(importlib.import_module("forkform." + file), name)
            self.assertEqual(function.__module__, "forkform." + file)
            parameters = inspect.signature(function).parameters.values()
            self.assertEqual([one.name for one in parameters], arguments, name)
            for one in parameters:
                self.assertIs(one.default, inspect.Parameter.empty, name)
                self.assertEqual(one.kind, inspect.Parameter.POSITIONAL_OR_KEYWORD, name)


if __name__ == "__main__":
    unittest.main()
