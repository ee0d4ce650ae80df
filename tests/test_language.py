"""Some of the rules of LANGUAGE.md: those that are told by a glance at a file of the package."""

import ast
import unittest
import warnings
from pathlib import Path

PACKAGE = Path(__file__).resolve().parent.parent / "stairwright"
BARRED = {"register", "mro", "elements", "open", "input", "law", "version_info", "with_traceback", "add_note", "eval",
          "exec", "globals", "locals", "vars", "type", "typing", "dir", "id", "compile", "delattr"}
LIBRARY = {"heapq", "math", "itertools", "collections", "__future__"}


def files():
    return sorted(PACKAGE.rglob("*.py"))


def trees():
    return [(path, ast.parse(path.read_text("ascii"))) for path in files()]


def functions():
    return [(path, node) for path, tree in trees() for node in ast.walk(tree) if isinstance(node, ast.FunctionDef)]


class LanguageTest(unittest.TestCase):
    def test_the_folder_holds_nothing_else(self):
        # Rule L1.
        found = [path.name for path in PACKAGE.iterdir() if path.name != "__pycache__"]
        self.assertEqual([name for name in found if not name.endswith(".py")], [])
        self.assertIn("__init__.py", found)

    def test_signs_and_lengths_of_lines(self):
        # Rules L10, L14, L27.
        for path in files():
            with self.subTest(path.name):
                text = path.read_bytes().decode("ascii")
                self.assertEqual([sign for sign in text if not " " <= sign <= "~" and sign != "\n"], [])
                self.assertEqual([row for row in text.split("\n") if len(row) > 120], [])
                self.assertLessEqual(len(text.split("\n")), 400)

    def test_lengths_of_functions(self):
        # Rule L10.
        for path, node in functions():
            with self.subTest(f"{path.name}: {node.name}"):
                self.assertLessEqual(node.end_lineno - node.lineno + 1, 40)

    def test_imports(self):
        # Rules L2, L16: from the very file, by its full name.
        for path, tree in trees():
            for node in ast.walk(tree):
                with self.subTest(path.name):
                    self.assertNotIsInstance(node, ast.Import)
                if isinstance(node, ast.ImportFrom):
                    with self.subTest(f"{path.name}: {node.module}"):
                        self.assertEqual(node.level, 0)
                        self.assert_names_its_file(node)

    def assert_names_its_file(self, node):
        if node.module in LIBRARY:
            return
        top, _, name = node.module.partition(".")
        self.assertEqual(top, "stairwright")
        tree = ast.parse((PACKAGE / f"{name}.py").read_text("ascii"))
        bound = {part.name for part in tree.body if isinstance(part, (ast.FunctionDef, ast.ClassDef))}
        bound |= {part.targets[0].id for part in tree.body if isinstance(part, ast.Assign)}
        self.assertLessEqual({part.name for part in node.names}, bound)

    def test_names_that_are_not_used(self):
        # Rule L17.
        for path, tree in trees():
            used = set()
            for node in ast.walk(tree):
                used |= {getattr(node, field, None) for field in ("id", "attr", "arg", "name")
                         if isinstance(getattr(node, field, None), str)}
            with self.subTest(path.name):
                self.assertEqual(used & BARRED, set())

    def test_any_and_all_take_lists(self):
        # Rule L7: a class of the package is to have an __eq__.
        for path, tree in trees():
            for node in ast.walk(tree):
                with self.subTest(path.name, line=getattr(node, "lineno", None)):
                    self.assertNotIsInstance(node, ast.GeneratorExp)

    def test_python_gives_no_warning(self):
        # Rule L27.
        with warnings.catch_warnings():
            warnings.simplefilter("error")
            for path in files():
                compile(path.read_text("ascii"), path.name, "exec")


if __name__ == "__main__":
    unittest.main()
