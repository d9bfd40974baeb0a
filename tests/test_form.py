"""Tests of the form of the package's files: what of the rules of its language can be told from the text alone."""

import ast
import pathlib
import unittest

FOLDER = pathlib.Path(__file__).resolve().parent.parent / "graftrules"
BUILTINS = set("""
    len range enumerate zip min max sum abs sorted reversed int str bool bytes list tuple dict set isinstance ord repr
    any all divmod iter next map getattr hasattr setattr super property staticmethod classmethod NotImplemented
    Exception ValueError TypeError KeyError IndexError LookupError ZeroDivisionError ArithmeticError OverflowError
    RuntimeError NotImplementedError
""".split())
BARRED = (ast.AsyncFor, ast.AsyncFunctionDef, ast.AsyncWith, ast.Await, ast.Import, ast.Div, ast.MatMult)
# A class of the package has an __eq__, so these take a list in the place of a generator expression.
TAKE_LISTS = ("any", "all", "min", "max", "sum", "sorted")


def files():
    return sorted(FOLDER.rglob("*.py"))


def rows(path):
    return path.read_text(encoding="ascii").split("\n")


def known_names(tree):
    """Return all names that a file binds anywhere, by an import, a definition, a parameter or an assignment."""
    found = set()
    for node in ast.walk(tree):
        if isinstance(node, (ast.FunctionDef, ast.ClassDef)):
            found.add(node.name)
        elif isinstance(node, ast.arg):
            found.add(node.arg)
        elif isinstance(node, ast.alias):
            found.add(node.name)
        elif isinstance(node, ast.Name) and not isinstance(node.ctx, ast.Load):
            found.add(node.id)
    return found


class TestForm(unittest.TestCase):
    def test_only_python_files(self):
        self.assertIn(FOLDER / "__init__.py", files())
        others = [path for path in FOLDER.rglob("*") if path.suffix != ".py" and "__pycache__" not in path.parts]
        self.assertEqual(others, [])

    def test_size_and_signs(self):
        for path in files():
            self.assertLessEqual(len(rows(path)), 400, path)
            for row in rows(path):
                self.assertLessEqual(len(row), 120, (path, row))
                self.assertTrue(all(" " <= sign <= "~" for sign in row), (path, row))

    def test_functions_are_short(self):
        for path in files():
            for node in ast.walk(ast.parse(path.read_text())):
                if isinstance(node, ast.FunctionDef):
                    self.assertLessEqual(node.end_lineno - node.lineno, 39, (path, node.name))

    def test_imports(self):
        for path in files():
            tree = ast.parse(path.read_text())
            for node in ast.walk(tree):
                if isinstance(node, ast.ImportFrom):
                    self.assertIn(node, tree.body)
                    self.assertEqual(node.level, 0)
                    self.assertRegex(node.module, r"^(graftrules\.[a-z_]+|heapq|math|itertools|collections)$")

    def test_statements_and_names(self):
        for path in files():
            tree = ast.parse(path.read_text())
            known = known_names(tree)
            self.assertEqual(known & BUILTINS, set(), path)
            for node in ast.walk(tree):
                self.assertNotIsInstance(node, BARRED, (path, getattr(node, "lineno", None)))
                if isinstance(node, ast.Name):
                    self.assertIn(node.id, known | BUILTINS, path)
                if isinstance(node, ast.Constant):
                    self.assertNotIsInstance(node.value, (float, complex), path)
                if isinstance(node, ast.Call) and getattr(node.func, "id", None) in TAKE_LISTS:
                    self.assertNotIsInstance(node.args[0], ast.GeneratorExp, (path, node.lineno))
