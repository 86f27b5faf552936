"""The outer rules of the language: files, characters, sizes, imports, builtins."""

import ast
import builtins
import unittest
from pathlib import Path

PACKAGE = Path(__file__).resolve().parent.parent / "bagtree"
BUILTINS = set(
    "len range enumerate zip min max sum abs sorted reversed int str bool bytes list tuple dict set isinstance ord repr"
    " any all divmod pow iter next type ValueError KeyError IndexError LookupError ZeroDivisionError".split()
)


def files():
    return sorted(path for path in PACKAGE.iterdir() if path.name != "__pycache__")


def trees():
    return [(path.name, ast.parse(path.read_text(encoding="utf-8"))) for path in files()]


class TestLanguage(unittest.TestCase):
    def test_the_folder_holds_plain_python_files_alone(self):
        for path in files():
            with self.subTest(path=path.name):
                self.assertRegex(path.name, r"^([a-z][a-z0-9_]*|__init__)\.py$")
                self.assertTrue(path.is_file())

    def test_characters_and_sizes(self):
        for path in files():
            with self.subTest(path=path.name):
                text = path.read_bytes()
                self.assertEqual([sign for sign in text if sign != 10 and not 32 <= sign <= 126], [])
                self.assertLessEqual(len(text.splitlines()), 399)
                self.assertLessEqual(max(map(len, text.splitlines())), 120)

    def test_functions_have_at_most_forty_lines(self):
        for name, tree in trees():
            for node in ast.walk(tree):
                if isinstance(node, (ast.FunctionDef, ast.Lambda)):
                    with self.subTest(file=name, line=node.lineno):
                        self.assertLessEqual(node.end_lineno - node.lineno + 1, 40)

    def test_imports_come_from_the_package_alone(self):
        for name, tree in trees():
            for node in ast.walk(tree):
                with self.subTest(file=name, line=getattr(node, "lineno", 0)):
                    self.assertNotIsInstance(node, ast.Import)
                    if isinstance(node, ast.ImportFrom):
                        self.assertEqual(node.level, 0)
                        self.assertRegex(node.module, r"^bagtree\.[a-z_]+$")

    def test_builtins_are_those_of_the_language_and_keep_their_meaning(self):
        for name, tree in trees():
            for node in ast.walk(tree):
                with self.subTest(file=name, line=getattr(node, "lineno", 0)):
                    if isinstance(node, ast.Name) and node.id in vars(builtins):
                        self.assertIn(node.id, BUILTINS)
                        self.assertIsInstance(node.ctx, ast.Load)
                    if isinstance(node, (ast.FunctionDef, ast.ClassDef)):
                        self.assertNotIn(node.name, vars(builtins))
                    if isinstance(node, ast.arg):
                        self.assertNotIn(node.arg, vars(builtins))


if __name__ == "__main__":
    unittest.main()
