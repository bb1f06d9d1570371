"""The interface: the classes of refusals, and where the methods of House stand."""

import ast
import pathlib
import unittest

from headbook import errors
from headbook.houses import House

PACKAGE = pathlib.Path(__file__).resolve().parent.parent / "headbook"
PLAIN = ("BadHouse", "BadName", "BadNumber", "NotHome", "BadCut", "Full")
FIELDS = {"BadTables": "number", "BadLog": "number", "BadText": "row"}
METHODS = (
    "look", "put", "drop", "copy", "leave", "cut", "move", "answers", "parts", "entries",
    "copies", "knows", "letters", "hear", "old",
)


def defined(file):
    tree = ast.parse((PACKAGE / file).read_text())
    return {node.name: node for node in tree.body if isinstance(node, (ast.ClassDef, ast.FunctionDef))}


class ErrorsTest(unittest.TestCase):
    def test_all_are_under_book_error_alone(self):
        self.assertEqual((ValueError,), errors.BookError.__bases__)
        for name in PLAIN + tuple(FIELDS):
            self.assertEqual((errors.BookError,), getattr(errors, name).__bases__, name)

    def test_fields(self):
        for name, field in FIELDS.items():
            for number in (0, 7, 200):
                self.assertEqual(number, getattr(getattr(errors, name)(number), field))

    def test_all_are_raised_and_caught_as_value_errors(self):
        for name in PLAIN:
            with self.assertRaises(ValueError):
                raise getattr(errors, name)("told")
        for name in FIELDS:
            with self.assertRaises(ValueError):
                raise getattr(errors, name)(3)

    def test_where_the_interface_is_defined(self):
        self.assertEqual({"BookError", *PLAIN, *FIELDS}, set(defined("errors.py")))
        rows = [row.name for row in defined("houses.py")["House"].body if isinstance(row, ast.FunctionDef)]
        for method in METHODS:
            self.assertIn(method, rows)
            self.assertTrue(callable(getattr(House, method)))


class SizesTest(unittest.TestCase):
    """The sizes of LANGUAGE.md, which are easily outgrown."""

    def test_files_and_lines(self):
        for path in sorted(PACKAGE.glob("*.py")):
            lines = path.read_text(encoding="ascii").splitlines()
            self.assertLessEqual(len(lines), 399, path)
            self.assertLessEqual(max(len(line) for line in lines), 120, path)

    def test_functions(self):
        for path in sorted(PACKAGE.glob("*.py")):
            for node in ast.walk(ast.parse(path.read_text())):
                if isinstance(node, ast.FunctionDef):
                    self.assertLessEqual(node.end_lineno - node.lineno + 1, 40, (path, node.name))


if __name__ == "__main__":
    unittest.main()
