"""Rules of the language subset that can be seen in the files of the package at a glance."""

import ast
import builtins
import unittest
from pathlib import Path

PACKAGE = Path(__file__).resolve().parent.parent / "kepttogether"
FILES = sorted(PACKAGE.rglob("*.py"))
LIBRARY = ("heapq", "math", "itertools", "collections", "__future__")
ALLOWED_BUILTINS = set(
    "len range enumerate zip min max sum abs sorted reversed int str bool bytes list tuple dict set frozenset"
    " isinstance ord repr any all divmod pow getattr hasattr setattr iter next map property staticmethod classmethod"
    " super Exception ValueError TypeError KeyError IndexError LookupError ZeroDivisionError ArithmeticError"
    " OverflowError RuntimeError NotImplementedError AttributeError StopIteration NotImplemented".split()
)
BARRED_NAMES = set("register mro elements open input law version_info with_traceback add_note".split())
BARRED_STATEMENTS = (ast.Global, ast.AsyncFunctionDef, ast.AsyncFor, ast.AsyncWith, ast.Await, ast.Import)


def names_of(tree):
    """All names in the file: of variables, functions, classes, imports, parameters, keywords and attributes."""
    fields = [(node, field) for node in ast.walk(tree) for field in ("id", "name", "asname", "attr", "arg")]
    return [name for node, field in fields if isinstance(name := getattr(node, field, None), str)]


def bound_names(tree):
    """The names of variables, parameters, and functions and classes outside of classes."""
    found = [node.id for node in ast.walk(tree) if isinstance(node, ast.Name) and isinstance(node.ctx, ast.Store)]
    found += [node.arg for node in ast.walk(tree) if isinstance(node, ast.arg)]
    return found + [node.name for node in tree.body if isinstance(node, (ast.FunctionDef, ast.ClassDef))]


class Language(unittest.TestCase):
    def each(self):
        for path in FILES:
            text = path.read_text(encoding="ascii")
            yield path, text, ast.parse(text)

    def test_the_folder_contains_nothing_else(self):
        self.assertIn(PACKAGE / "__init__.py", FILES)
        for path in PACKAGE.rglob("*"):
            if "__pycache__" not in path.parts:
                self.assertTrue(path.is_dir() or path.suffix == ".py", path)

    def test_characters_and_lengths(self):
        for path, text, tree in self.each():
            lines = text.split("\n")
            self.assertLess(len(lines), 400, path)
            for line in lines:
                self.assertLessEqual(len(line), 120, (path, line))
                self.assertTrue(all(" " <= character <= "~" for character in line), (path, line))
            for node in ast.walk(tree):
                if isinstance(node, ast.FunctionDef):
                    self.assertLessEqual(node.end_lineno - node.lineno + 1, 40, (path, node.name))

    def test_imports(self):
        for path, _, tree in self.each():
            for node in ast.walk(tree):
                self.assertNotIsInstance(node, BARRED_STATEMENTS, path)
                if isinstance(node, ast.ImportFrom):
                    self.assertEqual(node.level, 0, path)
                    self.assertIn(node, tree.body, path)
                    own = node.module.startswith("kepttogether.")
                    self.assertTrue(own or node.module in LIBRARY, (path, node.module))

    def test_names_that_are_not_used(self):
        for path, _, tree in self.each():
            self.assertEqual(BARRED_NAMES & set(names_of(tree)), set(), path)

    def test_builtins(self):
        for path, _, tree in self.each():
            read = {node.id for node in ast.walk(tree) if isinstance(node, ast.Name)}
            self.assertEqual({name for name in read if hasattr(builtins, name)} - ALLOWED_BUILTINS, set(), path)

    def test_no_builtin_is_given_another_meaning(self):
        for path, _, tree in self.each():
            self.assertEqual([name for name in bound_names(tree) if hasattr(builtins, name)], [], path)


if __name__ == "__main__":
    unittest.main()
