"""The interface: the classes of refusals, and where all that it lists is defined."""

import ast
import pathlib
import unittest

from headbook import errors, logs, notes, routes
from headbook.houses import House

PACKAGE = pathlib.Path(__file__).resolve().parent.parent / "headbook"
PLAIN = ("BadHouse", "BadName", "BadNumber", "NotHome", "BadCut", "Full")
FIELDS = {"BadTables": "number", "BadLog": "number", "BadText": "row"}
METHODS = {
    "__init__": ("number", "many"), "look": ("name",), "put": ("name", "number"), "drop": ("name",),
    "copy": ("root",), "leave": ("root",), "cut": ("root",), "move": ("root", "house"), "answers": (), "parts": (),
    "entries": ("root",), "copies": (), "knows": (), "letters": (), "hear": ("letter",), "old": ("name",),
}
FUNCTIONS = {
    (routes, "route"): ("tables", "house", "name"), (logs, "judged"): ("entries", "mark", "rows"),
    (logs, "behind"): ("entries", "rows"), (notes, "written"): ("entries",), (notes, "read"): ("text",),
}


def arguments(node):
    return tuple(row.arg for row in node.args.args)


def defined(file):
    tree = ast.parse((PACKAGE / file).read_text())
    return {node.name: node for node in tree.body if isinstance(node, (ast.ClassDef, ast.FunctionDef))}


class ErrorsTest(unittest.TestCase):
    def test_all_are_under_book_error_alone(self):
        self.assertEqual((ValueError,), errors.BookError.__bases__)
        for name in PLAIN + tuple(FIELDS):
            self.assertEqual((errors.BookError,), getattr(errors, name).__bases__, name)

    def test_fields(self):
        for name, field in FIELDS.items():
            for number in (0, 7, 200):
                self.assertEqual(number, getattr(getattr(errors, name)(number), field))

    def test_all_are_raised_and_caught_as_value_errors(self):
        for name in PLAIN:
            with self.assertRaises(ValueError):
                raise getattr(errors, name)("told")
        for name in FIELDS:
            with self.assertRaises(ValueError):
                raise getattr(errors, name)(3)

    def test_where_the_interface_is_defined(self):
        self.assertEqual({"BookError", *PLAIN, *FIELDS}, set(defined("errors.py")))
        rows = {row.name: row for row in defined("houses.py")["House"].body if isinstance(row, ast.FunctionDef)}
        for method, names in METHODS.items():
            self.assertEqual(("self",) + names, arguments(rows[method]), method)
            self.assertTrue(callable(getattr(House, method)))
        for (module, name), names in FUNCTIONS.items():
            file = module.__name__.partition(".")[2] + ".py"
            self.assertEqual(names, arguments(defined(file)[name]), name)
            self.assertTrue(callable(getattr(module, name)))


if __name__ == "__main__":
    unittest.main()
