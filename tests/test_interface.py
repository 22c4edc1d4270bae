import ast
import importlib
import inspect
import os
import unittest

from lietable import errors
from lietable.tables import Table

HERE = os.path.dirname(os.path.abspath(__file__))
PACKAGE = os.path.join(os.path.dirname(HERE), "lietable")

FUNCTIONS = {
    "paths": {"hearers": ["hands", "path"], "paths": ["hands", "most"]},
    "votes": {"vote": ["signs"], "settled": ["hands", "most", "told", "hand", "path"]},
    "parting": {"parts": ["hands", "most", "sign", "liars", "lies"], "parting": ["hands", "most"]},
}
METHODS = {"__init__": ["self", "hands", "most", "sign", "liars"], "play": ["self", "lies"],
           "told": ["self", "hand"], "says": ["self", "hand"]}
REFUSALS = ("NoTable", "NoSign", "NoHand", "NoSaying", "Over", "NotOver")


def arguments(function):
    return list(inspect.signature(function).parameters)


class TestInterface(unittest.TestCase):
    def test_functions_stand_in_their_files(self):
        for name, functions in FUNCTIONS.items():
            module = importlib.import_module("lietable." + name)
            for word, expected in functions.items():
                function = getattr(module, word)
                self.assertEqual(arguments(function), expected)
                self.assertEqual(function.__module__, "lietable." + name)

    def test_methods_stand_in_the_class(self):
        self.assertEqual(Table.__module__, "lietable.tables")
        for word, expected in METHODS.items():
            self.assertEqual(arguments(Table.__dict__[word]), expected)

    def test_round_is_set_on_each_table(self):
        self.assertEqual(vars(Table(4, 1, "a", []))["round"], 0)

    def test_errors_stand_alone_under_table_error(self):
        self.assertEqual(errors.TableError.__bases__, (ValueError,))
        for word in REFUSALS:
            error = getattr(errors, word)
            self.assertEqual(error.__bases__, (errors.TableError,))
            self.assertEqual(error.__module__, "lietable.errors")

    def test_package_needs_nothing_outside(self):
        for name in os.listdir(PACKAGE):
            if not name.endswith(".py"):
                continue
            with open(os.path.join(PACKAGE, name), encoding="ascii") as file:
                tree = ast.parse(file.read())
            for node in ast.walk(tree):
                self.assertNotIsInstance(node, ast.Import)
                if isinstance(node, ast.ImportFrom):
                    self.assertIn(node.module.split(".")[0], ("lietable", "itertools"))


if __name__ == "__main__":
    unittest.main()
