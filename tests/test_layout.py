"""The interface as DOC.md lists it, and what LANGUAGE.md says of files that a glance can tell."""

import ast
import importlib
import inspect
import os
import unittest

ROOT = os.path.dirname(os.path.dirname(os.path.abspath(__file__)))
PACKAGE = os.path.join(ROOT, "latewood")

FUNCTIONS = (
    ("pieces", "is_piece", ["thing"]),
    ("heaps", "cleared", ["heap"]),
    ("heaps", "holes_of", ["heap"]),
    ("heaps", "runs_of", ["heap"]),
    ("heaps", "houses_of", ["heap"]),
    ("woods", "wood_of", ["heap", "run"]),
    ("woods", "is_whole_run", ["heap", "run"]),
    ("woods", "way_up", ["heap", "run", "number"]),
    ("woods", "beneath", ["heap", "run", "number"]),
    ("shifts", "ties_of", ["heap"]),
    ("shifts", "shifts_of", ["heap"]),
    ("shifts", "are_shifts", ["heap", "thing"]),
    ("shifts", "is_ring", ["heap", "thing"]),
    ("spans", "span_of", ["heap", "one", "other"]),
    ("spans", "most_of", ["heap", "one", "other"]),
    ("spans", "shows_most", ["heap", "one", "other", "number", "thing"]),
    ("ways", "shifted", ["heap", "rows"]),
    ("ways", "is_right", ["heap", "run"]),
    ("ways", "way_of", ["heap", "run"]),
    ("ways", "own_times", ["heap", "run"]),
    ("anew", "done_anew", ["heap", "run", "more"]),
    ("anew", "slack_of", ["heap", "run", "number"]),
    ("gaps", "gap_of", ["heap", "run", "number"]),
    ("gaps", "fills", ["heap", "piece"]),
    ("parts", "place_bounds", ["kept", "many", "low", "high", "total", "place"]),
    ("parts", "place_dealing", ["kept", "many", "low", "high", "total", "place", "greatest"]),
    ("parts", "over_bounds", ["kept", "many", "low", "high", "total", "number"]),
    ("parts", "over_dealing", ["kept", "many", "low", "high", "total", "number", "greatest"]),
    ("shapes", "shape_of", ["heap", "run"]),
    ("shapes", "shapes_held", ["heap", "one", "other"]),
    ("shapes", "are_pairs", ["heap", "one", "other", "thing"]),
    ("texts", "piece_text", ["piece"]),
    ("texts", "heap_text", ["heap"]),
    ("texts", "read_piece", ["text"]),
    ("texts", "read_heap", ["text"]),
)

METHODS = (
    ("keeper", "Keeper", "__init__", []),
    ("keeper", "Keeper", "tell", ["piece"]),
    ("keeper", "Keeper", "pour", ["other"]),
    ("keeper", "Keeper", "back", ["many"]),
    ("keeper", "Keeper", "copy", []),
    ("keeper", "Keeper", "__len__", []),
    ("keeper", "Keeper", "__eq__", ["other"]),
    ("keeper", "Keeper", "heap_now", []),
    ("keeper", "Keeper", "runs_now", []),
    ("keeper", "Keeper", "holes_now", []),
    ("keeper", "Keeper", "wood_now", ["run"]),
    ("keeper", "Keeper", "shifts_now", []),
    ("keeper", "Keeper", "span_now", ["one", "other"]),
    ("keeper", "Keeper", "shape_now", ["run"]),
    ("keeper", "Keeper", "way_now", ["run"]),
    ("keeper", "Keeper", "slack_now", ["run", "number"]),
    ("keeper", "Keeper", "tellings_now", []),
    ("desk", "Desk", "__init__", []),
    ("desk", "Desk", "say", ["row"]),
)


def sources():
    """The names and texts of the package's files."""
    found = []
    for name in sorted(os.listdir(PACKAGE)):
        if name != "__pycache__":
            with open(os.path.join(PACKAGE, name), encoding="utf-8") as file:
                found.append((name, file.read()))
    return found


class Interface(unittest.TestCase):

    def test_functions_stand_in_their_files(self):
        for module, name, arguments in FUNCTIONS:
            function = getattr(importlib.import_module(f"latewood.{module}"), name)
            self.assertEqual(function.__module__, f"latewood.{module}")
            signature = inspect.signature(function).parameters
            self.assertEqual(list(signature), arguments)
            for argument in arguments:
                default = False if argument == "greatest" else inspect.Parameter.empty
                self.assertIs(signature[argument].default, default)

    def test_methods_stand_in_their_classes(self):
        for module, name, method, arguments in METHODS:
            found = getattr(importlib.import_module(f"latewood.{module}"), name)
            self.assertEqual(found.__module__, f"latewood.{module}")
            signature = inspect.signature(vars(found)[method]).parameters
            self.assertEqual(list(signature)[1:], arguments)
            for argument in arguments:
                default = 1 if argument == "many" else inspect.Parameter.empty
                self.assertEqual(signature[argument].default, default)


class Files(unittest.TestCase):

    def test_python_files_alone(self):
        for name, _ in sources():
            self.assertRegex(name, r"\A[a-z_]+\.py\Z")
        self.assertIn("__init__.py", [name for name, _ in sources()])

    def test_signs_and_lengths(self):
        for name, text in sources():
            self.assertTrue(all(sign == "\n" or " " <= sign <= "~" for sign in text), name)
            self.assertLess(len(text.splitlines()), 400, name)
            for line in text.splitlines():
                self.assertLessEqual(len(line), 120, line)

    def test_functions_are_short(self):
        for name, text in sources():
            for node in ast.walk(ast.parse(text)):
                if isinstance(node, ast.FunctionDef):
                    self.assertLessEqual(node.end_lineno - node.lineno + 1, 40, (name, node.name))

    def test_imports_are_from_the_package(self):
        library = ("heapq", "math", "itertools", "collections", "__future__")
        for name, text in sources():
            for node in ast.walk(ast.parse(text)):
                self.assertNotIsInstance(node, ast.Import, name)
                if isinstance(node, ast.ImportFrom):
                    self.assertEqual(node.level, 0)
                    self.assertTrue(node.module in library or node.module.startswith("latewood."), name)


if __name__ == "__main__":
    unittest.main()
