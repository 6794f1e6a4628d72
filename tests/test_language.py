"""Rules of the language subset that can be seen in the files of the package at a glance."""

import ast
import builtins
import unittest
from pathlib import Path

PACKAGE = Path(__file__).resolve().parent.parent / "kepttogether"
FILES = sorted(PACKAGE.rglob("*.py"))
LIBRARY = ("heapq", "math", "itertools", "collections", "__future__")
ALLOWED_BUILTINS = set(
    "len range enumerate zip min max sum abs sorted reversed int str bool bytes list tuple dict set frozenset"
    " isinstance ord repr any all divmod pow getattr hasattr setattr iter next map property staticmethod classmethod"
    " super Exception ValueError TypeError KeyError IndexError LookupError ZeroDivisionError ArithmeticError"
    " OverflowError RuntimeError NotImplementedError AttributeError StopIteration NotImplemented".split()
)
BARRED_NAMES = set("register mro elements open input law version_info with_traceback add_note".split())
ITERATING = set("list tuple dict sorted sum min max any all enumerate zip".split())
ITERATED = set("range zip enumerate reversed".split())
METHODS = set(
    "append clear copy count endswith extend find get index insert isalnum isalpha isdigit islower isspace isupper"
    " items join keys ljust lower lstrip partition pop remove replace reverse rfind rjust rpartition rsplit rstrip"
    " setdefault split splitlines startswith strip update upper values zfill bit_length".split()
)
BARRED_STATEMENTS = (ast.Global, ast.AsyncFunctionDef, ast.AsyncFor, ast.AsyncWith, ast.Await, ast.Import)


def names_of(tree):
    """All names in the file: of variables, functions, classes, imports, parameters, keywords and attributes."""
    fields = [(node, field) for node in ast.walk(tree) for field in ("id", "name", "asname", "attr", "arg")]
    return [name for node, field in fields if isinstance(name := getattr(node, field, None), str)]


def imports_of(tree):
    return [node for node in tree.body if isinstance(node, ast.ImportFrom)]


def called_name(node):
    """The bare name of what is called, if the node is such a call."""
    return node.func.id if isinstance(node, ast.Call) and isinstance(node.func, ast.Name) else None


def iterated_at_once(tree):
    """The nodes that stand where something is iterated on the spot: in loops, and in calls that go over it."""
    loops = [node.iter for node in ast.walk(tree) if isinstance(node, (ast.For, ast.comprehension))]
    calls = [node for node in ast.walk(tree) if isinstance(node, ast.Call) and node.args]
    joins = [node.args[0] for node in calls if isinstance(node.func, ast.Attribute) and node.func.attr == "join"]
    return loops + joins + [node.args[0] for node in calls if called_name(node) in ITERATING]


def methods_of(tree):
    """The names of the methods of the file's classes."""
    classes = [node for node in tree.body if isinstance(node, ast.ClassDef)]
    return [node.name for one in classes for node in one.body if isinstance(node, ast.FunctionDef)]


def bound_names(tree):
    """The names of variables, parameters, and functions and classes outside of classes."""
    found = [node.id for node in ast.walk(tree) if isinstance(node, ast.Name) and isinstance(node.ctx, ast.Store)]
    found += [node.arg for node in ast.walk(tree) if isinstance(node, ast.arg)]
    return found + [node.name for node in tree.body if isinstance(node, (ast.FunctionDef, ast.ClassDef))]


class Language(unittest.TestCase):
    def each(self):
        for path in FILES:
            text = path.read_text(encoding="ascii")
            yield path, text, ast.parse(text)

    def test_the_folder_contains_nothing_else(self):
        self.assertIn(PACKAGE / "__init__.py", FILES)
        for path in PACKAGE.rglob("*"):
            if "__pycache__" not in path.parts:
                self.assertTrue(path.is_dir() or path.suffix == ".py", path)

    def test_characters_and_lengths(self):
        for path, text, tree in self.each():
            lines = text.split("\n")
            self.assertLess(len(lines), 400, path)
            for line in lines:
                self.assertLessEqual(len(line), 120, (path, line))
                self.assertTrue(all(" " <= character <= "~" for character in line), (path, line))
            for node in ast.walk(tree):
                if isinstance(node, ast.FunctionDef):
                    self.assertLessEqual(node.end_lineno - node.lineno + 1, 40, (path, node.name))

    def test_imports(self):
        for path, _, tree in self.each():
            for node in ast.walk(tree):
                self.assertNotIsInstance(node, BARRED_STATEMENTS, path)
                if isinstance(node, ast.ImportFrom):
                    self.assertEqual(node.level, 0, path)
                    self.assertIn(node, tree.body, path)
                    own = node.module.startswith("kepttogether.")
                    self.assertTrue(own or node.module in LIBRARY, (path, node.module))

    def test_each_import_names_the_file_that_defines_the_name_and_is_used(self):
        for path, _, tree in self.each():
            used = {node.id for node in ast.walk(tree) if isinstance(node, ast.Name)}
            for node in imports_of(tree):
                for alias in node.names:
                    self.assertIn(alias.name, used, path)
                    if node.module.startswith("kepttogether."):
                        file = PACKAGE / (node.module.split(".")[1] + ".py")
                        below = ast.parse(file.read_text(encoding="ascii")).body
                        defined = [one.name for one in below if isinstance(one, (ast.FunctionDef, ast.ClassDef))]
                        defined += [one.targets[0].id for one in below if isinstance(one, ast.Assign)]
                        self.assertIn(alias.name, defined, (path, node.module))

    def test_no_files_import_from_each_other(self):
        left = {
            f"kepttogether.{path.stem}": {node.module for node in imports_of(tree)} for path, _, tree in self.each()
        }
        while left:
            ready = [name for name, needed in left.items() if not needed & set(left)]
            self.assertNotEqual(ready, [], f"these import from each other: {sorted(left)}")
            left = {name: needed for name, needed in left.items() if name not in ready}

    def test_no_import_is_given_another_meaning(self):
        for path, _, tree in self.each():
            imported = [alias.name for node in imports_of(tree) for alias in node.names]
            self.assertEqual(len(set(imported)), len(imported), path)
            self.assertEqual(set(imported) & set(bound_names(tree)), set(), path)

    def test_is_only_beside_none_true_and_false(self):
        for path, _, tree in self.each():
            for node in ast.walk(tree):
                if isinstance(node, ast.Compare) and isinstance(node.ops[0], (ast.Is, ast.IsNot)):
                    self.assertIsInstance(node.comparators[0], ast.Constant, (path, node.lineno))

    def test_what_is_iterated_at_once(self):
        for path, _, tree in self.each():
            there = {id(node) for node in iterated_at_once(tree)}
            for node in ast.walk(tree):
                if called_name(node) in ITERATED or isinstance(node, ast.GeneratorExp):
                    self.assertIn(id(node), there, (path, node.lineno))

    def test_methods_numbers_and_strings(self):
        own = {name for _, _, tree in self.each() for name in methods_of(tree)}
        for path, _, tree in self.each():
            for node in ast.walk(tree):
                if isinstance(node, ast.Call) and isinstance(node.func, ast.Attribute):
                    self.assertIn(node.func.attr, METHODS | own | {"__init__"}, (path, node.lineno))
                self.assertNotIsInstance(node, ast.Div, path)
                if isinstance(node, ast.Constant):
                    self.assertNotIsInstance(node.value, float, path)
                    self.assertNotIn("%", str(node.value), path)

    def test_names_that_are_not_used(self):
        for path, _, tree in self.each():
            self.assertEqual(BARRED_NAMES & set(names_of(tree)), set(), path)

    def test_builtins(self):
        for path, _, tree in self.each():
            read = {node.id for node in ast.walk(tree) if isinstance(node, ast.Name)}
            self.assertEqual({name for name in read if hasattr(builtins, name)} - ALLOWED_BUILTINS, set(), path)

    def test_no_builtin_is_given_another_meaning(self):
        for path, _, tree in self.each():
            self.assertEqual([name for name in bound_names(tree) if hasattr(builtins, name)], [], path)


if __name__ == "__main__":
    unittest.main()
