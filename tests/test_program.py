"""Point 1 and the head of the interface: what holds of the whole program."""

import ast
import importlib
import inspect
import pathlib
import unittest

PACKAGE = pathlib.Path(__file__).resolve().parent.parent / "formlines"

# Each function of the interface, the file that defines it and the names of what it is passed.
FUNCTIONS = (
    ("formlines.tables", "is_table", ("thing",)),
    ("formlines.tables", "at_number", ("table", "number")),
    ("formlines.rules", "is_rule", ("thing", "lines", "tables", "choices")),
    ("formlines.rules", "named", ("rule", "word")),
    ("formlines.forms", "form_of", ("lines", "tables", "choices", "owed")),
    ("formlines.forms", "ring_of", ("lines",)),
    ("formlines.forms", "order_of", ("form",)),
    ("formlines.reckoning", "reckoned", ("form", "pairs", "earlier", "taken")),
    ("formlines.reckoning", "history", ("form", "years", "taken")),
    ("formlines.reckoning", "hanging", ("form", "count", "year", "word")),
    ("formlines.reckoning", "hanging_choice", ("form", "count", "year", "choice")),
    ("formlines.choosing", "sums", ("form", "years")),
    ("formlines.choosing", "least", ("form", "years")),
)

# What the class File is made of, and each of its methods.
MADE_OF = ("form", "count")
METHODS = (
    ("put", ("self", "year", "word", "number")),
    ("take", ("self", "year", "choice", "taken")),
    ("values", ("self", "year")),
    ("value", ("self", "year", "line")),
    ("owed", ("self",)),
    ("told", ("self", "year")),
)

# What a module may be imported from, beside the package: none of it tells the time, draws lots or reads files.
LIBRARY = ("__future__", "heapq", "math", "itertools", "collections")


def imported_names(path):
    names = []
    for node in ast.walk(ast.parse(path.read_text(encoding="utf-8"))):
        if isinstance(node, ast.Import):
            names.extend(alias.name for alias in node.names)
        elif isinstance(node, ast.ImportFrom):
            names.append("." * node.level + (node.module or ""))
    return names


class TestInterface(unittest.TestCase):
    def test_each_function_is_defined_in_its_file_with_its_arguments(self):
        for module, name, parameters in FUNCTIONS:
            with self.subTest(name=name):
                function = getattr(importlib.import_module(module), name)
                self.assertTrue(inspect.isfunction(function))
                self.assertEqual(function.__module__, module)
                self.assertEqual(function.__name__, name)
                self.assertEqual(tuple(inspect.signature(function).parameters), parameters)

    def test_the_class_is_defined_in_its_file_with_its_methods(self):
        kind = importlib.import_module("formlines.files").File
        self.assertTrue(inspect.isclass(kind))
        self.assertEqual((kind.__module__, kind.__name__), ("formlines.files", "File"))
        self.assertEqual(tuple(inspect.signature(kind).parameters), MADE_OF)
        for name, parameters in METHODS:
            with self.subTest(name=name):
                self.assertTrue(inspect.isfunction(vars(kind).get(name)))
                self.assertEqual(tuple(inspect.signature(vars(kind)[name]).parameters), parameters)

    def test_arguments_by_name(self):
        tables = importlib.import_module("formlines.tables")
        rules = importlib.import_module("formlines.rules")
        self.assertIs(tables.is_table(thing=((0, 5, 10),)), True)
        self.assertEqual(tables.at_number(number=30, table=((0, 5, 10),)), 8)
        self.assertIs(rules.is_rule(choices=0, tables=0, lines=1, thing=("line", 0)), True)
        self.assertIs(rules.is_rule(choices=1, tables=1, lines=0, thing=("line", 0)), False)
        self.assertEqual(rules.named(word="line", rule=("line", 0)), [0])


class TestNothingFromOutside(unittest.TestCase):
    def test_no_clock_no_chance_no_files(self):
        files = sorted(PACKAGE.rglob("*.py"))
        self.assertTrue(files)
        for path in files:
            for name in imported_names(path):
                with self.subTest(file=path.name, name=name):
                    self.assertTrue(name.split(".")[0] in LIBRARY + ("formlines",))

    def test_no_file_is_opened_and_no_code_is_made(self):
        for path in sorted(PACKAGE.rglob("*.py")):
            called = [node.func.id for node in ast.walk(ast.parse(path.read_text(encoding="utf-8")))
                      if isinstance(node, ast.Call) and isinstance(node.func, ast.Name)]
            for name in ("open", "input", "print", "eval", "exec", "__import__"):
                with self.subTest(file=path.name, name=name):
                    self.assertNotIn(name, called)


if __name__ == "__main__":
    unittest.main()
