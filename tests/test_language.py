"""Some of the rules of LANGUAGE.md: those that are told by a glance at a file of the package."""

import ast
import builtins
import unittest
import warnings
from pathlib import Path

PACKAGE = Path(__file__).resolve().parent.parent / "stairwright"
BARRED = {"register", "mro", "elements", "open", "input", "law", "version_info", "with_traceback", "add_note", "eval",
          "exec", "globals", "locals", "vars", "type", "typing", "dir", "id", "compile", "delattr"}
BARRED_AHEAD = (r"^_(wall|pe_|dcw_|enum_|cm_|twin_re_|lay_|law_|stub_|sre|WallAttr)|"
                r"^_(cold|tuplegetter|outside|record|written_out|member_names)[0-9_]*$")
LIBRARY = {"heapq", "math", "itertools", "collections", "__future__"}
BUILTINS = set("""len range enumerate zip min max sum abs sorted reversed int str bool bytes list tuple dict set
    frozenset isinstance ord repr any all divmod pow getattr hasattr setattr map iter next super Exception ValueError
    TypeError KeyError IndexError LookupError ZeroDivisionError ArithmeticError OverflowError RuntimeError
    NotImplementedError AttributeError StopIteration NotImplemented""".split())
METHODS = set("""append clear copy count endswith extend find get index insert isalnum isalpha isdigit islower isspace
    isupper items join keys ljust lower lstrip partition pop remove replace reverse rfind rjust rpartition rsplit
    rstrip setdefault split splitlines startswith strip update upper values zfill bit_length""".split())


def files():
    return sorted(PACKAGE.rglob("*.py"))


def trees():
    return [(path, ast.parse(path.read_text("ascii"))) for path in files()]


def names_of(node):
    """The names that it gives or reads, those of attributes, arguments and imports, too."""
    found = [getattr(node, field, None) for field in ("id", "attr", "arg", "name", "asname")]
    return [name for name in found if isinstance(name, str)]


def functions():
    return [(path, node) for path, tree in trees() for node in ast.walk(tree) if isinstance(node, ast.FunctionDef)]


class LanguageTest(unittest.TestCase):
    def test_the_folder_holds_nothing_else(self):
        # Rule L1.
        found = [path.name for path in PACKAGE.iterdir() if path.name != "__pycache__"]
        self.assertEqual([name for name in found if not name.endswith(".py")], [])
        self.assertIn("__init__.py", found)

    def test_signs_and_lengths_of_lines(self):
        # Rules L10, L14, L27.
        for path in files():
            with self.subTest(path.name):
                text = path.read_bytes().decode("ascii")
                self.assertEqual([sign for sign in text if not " " <= sign <= "~" and sign != "\n"], [])
                self.assertEqual([row for row in text.split("\n") if len(row) > 120], [])
                self.assertLessEqual(len(text.split("\n")), 400)

    def test_lengths_of_functions(self):
        # Rule L10.
        for path, node in functions():
            with self.subTest(f"{path.name}: {node.name}"):
                self.assertLessEqual(node.end_lineno - node.lineno + 1, 40)

    def test_imports(self):
        # Rules L2, L16: from the very file, by its full name.
        for path, tree in trees():
            for node in ast.walk(tree):
                with self.subTest(path.name):
                    self.assertNotIsInstance(node, ast.Import)
                if isinstance(node, ast.ImportFrom):
                    with self.subTest(f"{path.name}: {node.module}"):
                        self.assertEqual(node.level, 0)
                        self.assert_names_its_file(node)

    def assert_names_its_file(self, node):
        if node.module in LIBRARY:
            return
        top, _, name = node.module.partition(".")
        self.assertEqual(top, "stairwright")
        tree = ast.parse((PACKAGE / f"{name}.py").read_text("ascii"))
        bound = {part.name for part in tree.body if isinstance(part, (ast.FunctionDef, ast.ClassDef))}
        bound |= {part.targets[0].id for part in tree.body if isinstance(part, ast.Assign)}
        self.assertLessEqual({part.name for part in node.names}, bound)

    def test_names_that_are_not_used(self):
        # Rule L17.
        for path, tree in trees():
            used = set()
            for node in ast.walk(tree):
                used |= {getattr(node, field, None) for field in ("id", "attr", "arg", "name")
                         if isinstance(getattr(node, field, None), str)}
            with self.subTest(path.name):
                self.assertEqual(used & BARRED, set())

    def test_plain_names(self):
        # Rule L12: a class's name begins with a letter; others may begin with one underscore.
        for path, tree in trees():
            for node in ast.walk(tree):
                for name in names_of(node):
                    with self.subTest(f"{path.name}: {name}", line=getattr(node, "lineno", None)):
                        self.assertRegex(name, r"^(_|_?[A-Za-z][A-Za-z0-9_]*|__(init|eq|repr|len)__)$")
                        self.assertNotRegex(name, BARRED_AHEAD)
                if isinstance(node, ast.ClassDef):
                    with self.subTest(f"{path.name}: class {node.name}", line=node.lineno):
                        self.assertRegex(node.name, r"^[A-Za-z][A-Za-z0-9_]*$")
                if isinstance(node, ast.Name) and isinstance(node.ctx, ast.Load):
                    self.assertNotEqual(node.id, "_", path.name)

    def test_any_and_all_take_lists(self):
        # Rule L7: a class of the package is to have an __eq__.
        for path, tree in trees():
            for node in ast.walk(tree):
                with self.subTest(path.name, line=getattr(node, "lineno", None)):
                    self.assertNotIsInstance(node, ast.GeneratorExp)

    def test_builtins(self):
        # Rule L8.
        for path, tree in trees():
            names = {node.id for node in ast.walk(tree) if isinstance(node, ast.Name)}
            with self.subTest(path.name):
                self.assertEqual(names & set(dir(builtins)) - BUILTINS, set())

    def test_names_that_have_a_meaning_already(self):
        # Rule L15.
        for path, tree in trees():
            taken = set(dir(builtins))
            for node in tree.body:
                if isinstance(node, ast.ImportFrom):
                    taken |= {part.name for part in node.names}
                if isinstance(node, ast.ClassDef):
                    taken.add(node.name)
            given = {node.arg for node in ast.walk(tree) if isinstance(node, ast.arg)}
            given |= {node.id for node in ast.walk(tree)
                      if isinstance(node, ast.Name) and isinstance(node.ctx, ast.Store)}
            with self.subTest(path.name):
                self.assertEqual(given & taken, set())

    def test_methods_and_attributes(self):
        # Rules L18, L25, L26.
        own, given, read, called = set(), set(), set(), set()
        for _, tree in trees():
            for node in ast.walk(tree):
                if isinstance(node, ast.ClassDef):
                    own |= {part.name for part in node.body if isinstance(part, ast.FunctionDef)}
                if isinstance(node, ast.Attribute):
                    (given if isinstance(node.ctx, ast.Store) else read).add(node.attr)
                if isinstance(node, ast.Call) and isinstance(node.func, ast.Attribute):
                    called.add(node.func.attr)
        self.assertEqual(called - own - METHODS, set())
        self.assertEqual(read - given - own - METHODS, set())
        of_builtins = {name for kind in (str, int, list, dict, set, bytes) for name in dir(kind)}
        self.assertEqual(given & of_builtins, set())

    def test_is_and_signs(self):
        # Rules L20, L7, L27.
        for path, tree in trees():
            for node in ast.walk(tree):
                with self.subTest(path.name, line=getattr(node, "lineno", None)):
                    if isinstance(node, ast.Compare):
                        for sign, other in zip(node.ops, node.comparators):
                            if isinstance(sign, (ast.Is, ast.IsNot)):
                                self.assertIsInstance(other, ast.Constant)
                                self.assertIn(other.value, (None, True, False))
                    self.assertNotIsInstance(node, (ast.Div, ast.Pow, ast.Global, ast.Yield))
                    if isinstance(node, ast.Constant):
                        self.assertNotIsInstance(node.value, float)
                        self.assertFalse(isinstance(node.value, str) and chr(37) in node.value)

    def test_python_gives_no_warning(self):
        # Rule L27.
        with warnings.catch_warnings():
            warnings.simplefilter("error")
            for path in files():
                compile(path.read_text("ascii"), path.name, "exec")


if __name__ == "__main__":
    unittest.main()
