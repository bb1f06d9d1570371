"""What LANGUAGE.md asks of the package, as far as it is easily broken and easily seen.

Also promise 1: nothing uses a clock, chance or files, and nothing is kept but in houses.
"""

import ast
import builtins
import pathlib
import unittest

PACKAGE = pathlib.Path(__file__).resolve().parent.parent / "headbook"
BUILTINS = {
    "len", "range", "enumerate", "zip", "min", "max", "sum", "abs", "sorted", "reversed", "int", "str", "bool",
    "list", "tuple", "dict", "set", "isinstance", "ord", "repr", "any", "all", "divmod", "map", "ValueError",
}
METHODS = {
    "append", "clear", "copy", "count", "endswith", "extend", "find", "get", "index", "insert", "isalnum", "isalpha",
    "isdigit", "islower", "isspace", "isupper", "items", "join", "keys", "ljust", "lower", "lstrip", "partition",
    "pop", "remove", "replace", "reverse", "rfind", "rjust", "rpartition", "rsplit", "rstrip", "setdefault", "split",
    "splitlines", "startswith", "strip", "update", "upper", "values", "zfill", "bit_length",
}
CHANGES = {"append", "clear", "extend", "insert", "pop", "remove", "reverse", "setdefault", "update"}


def files():
    return sorted(PACKAGE.glob("*.py"))


def trees():
    return [(path.name, ast.parse(path.read_text())) for path in files()]


def nodes(kind):
    return [(name, node) for name, tree in trees() for node in ast.walk(tree) if isinstance(node, kind)]


class FilesTest(unittest.TestCase):
    def test_the_folder(self):
        for path in PACKAGE.iterdir():
            if path.name != "__pycache__":
                self.assertRegex(path.name, r"^(__init__|[a-z]+)\.py$")

    def test_sizes(self):
        for path in files():
            lines = path.read_text(encoding="ascii").splitlines()
            self.assertLessEqual(len(lines), 399, path)
            self.assertLessEqual(max(len(line) for line in lines), 120, path)
        for name, node in nodes(ast.FunctionDef):
            self.assertLessEqual(node.end_lineno - node.lineno + 1, 40, (name, node.name))

    def test_signs(self):
        for path in files():
            signs = set(path.read_text(encoding="ascii"))
            self.assertEqual(set(), signs - {chr(sign) for sign in range(32, 127)} - {"\n"}, path)
        for name, node in nodes(ast.Constant):
            if isinstance(node.value, str):
                self.assertNotIn("%", node.value, name)


class ModulesTest(unittest.TestCase):
    def test_imports_are_of_the_package_alone(self):
        """So there is no clock, no chance and no file: what has these isn't imported."""
        defined = {}
        for name, tree in trees():
            rows = [row for row in tree.body if isinstance(row, (ast.FunctionDef, ast.ClassDef, ast.Assign))]
            defined["headbook." + name[:-3]] = {getattr(row, "name", None) or row.targets[0].id for row in rows}
        self.assertEqual([], nodes(ast.Import))
        for name, node in nodes(ast.ImportFrom):
            self.assertEqual(0, node.level)
            self.assertIn(node.module, defined, name)
            for told in node.names:
                self.assertIn(told.name, defined[node.module], name)
                self.assertIsNone(told.asname)

    def test_builtins(self):
        for name, node in nodes(ast.Name):
            if hasattr(builtins, node.id):
                self.assertIn(node.id, BUILTINS, (name, node.lineno))
                self.assertIsInstance(node.ctx, ast.Load)
        for name, node in nodes(ast.arg):
            self.assertFalse(hasattr(builtins, node.arg), (name, node.arg))

    def test_methods(self):
        own = {node.name for _, node in nodes(ast.FunctionDef)}
        for name, node in nodes(ast.Call):
            if isinstance(node.func, ast.Attribute):
                self.assertIn(node.func.attr, METHODS | own, (name, node.lineno))

    def test_nothing_is_kept_at_module_level(self):
        kept = {}
        for name, tree in trees():
            for row in tree.body:
                told = isinstance(row, ast.Expr) and isinstance(row.value, ast.Constant)
                if not told and not isinstance(row, (ast.ImportFrom, ast.FunctionDef, ast.ClassDef)):
                    self.assertIsInstance(row, ast.Assign, name)
                    kept[row.targets[0].id] = ast.literal_eval(row.value)
        for name, worth in kept.items():
            self.assertIsInstance(worth, (int, str, tuple, dict), name)
        for name, node in nodes((ast.Global, ast.Nonlocal)):
            self.fail(name)
        self.assertEqual([], [row for row in nodes(ast.Subscript) if self.is_changed(row[1], kept)])
        for name, node in nodes(ast.Call):
            if isinstance(node.func, ast.Attribute) and node.func.attr in CHANGES:
                self.assertNotIn(getattr(node.func.value, "id", None), kept, name)

    def is_changed(self, node, kept):
        return not isinstance(node.ctx, ast.Load) and getattr(node.value, "id", None) in kept

    def test_no_default_value_keeps_anything(self):
        for name, node in nodes(ast.arguments):
            for worth in node.defaults + node.kw_defaults:
                self.assertNotIsInstance(worth, (ast.List, ast.Dict, ast.Call), name)


if __name__ == "__main__":
    unittest.main()
