"""Some of the rules of LANGUAGE.md: those that are told by a glance at a file of the package."""

import ast
import builtins
import re
import unittest
import warnings
from pathlib import Path

PACKAGE = Path(__file__).resolve().parent.parent / "stairwright"
BARRED = {"register", "mro", "elements", "open", "input", "law", "version_info", "with_traceback", "add_note", "eval",
          "exec", "globals", "locals", "vars", "type", "typing", "dir", "id", "compile", "delattr"}
BARRED_AHEAD = (r"^_(wall|pe_|dcw_|enum_|cm_|twin_re_|lay_|law_|stub_|sre|WallAttr)|"
                r"^_(cold|tuplegetter|outside|record|written_out|member_names)[0-9_]*$")
LIBRARY = {"heapq", "math", "itertools", "collections", "__future__"}
BUILTINS = set("""len range enumerate zip min max sum abs sorted reversed int str bool bytes list tuple dict set
    frozenset isinstance ord repr any all divmod pow getattr hasattr setattr map iter next super Exception ValueError
    TypeError KeyError IndexError LookupError ZeroDivisionError ArithmeticError OverflowError RuntimeError
    NotImplementedError AttributeError StopIteration NotImplemented""".split())
WORDS_BARRED = set("""type typing typing_extensions enum Enum IntEnum StrEnum Flag IntFlag Generic Protocol ABC ABCMeta
    namedtuple NamedTuple TypedDict TYPE_CHECKING abstractmethod dataclass overload contextmanager""".split())
INTERFACE = """## stairwright/errors.py
StairError BadCarriers BadType BadExpression BadState BadGoal BadPaper BadRun BadCode NotMade BadChange BadModel BadText
Broken GreatError TooGreat MissError NoGoal NoDeed
## stairwright/limits.py
MOST_SETS MOST_ELEMENTS MOST_NUM MOST_PARTS MOST_DEEP MOST_MODELS MOST_VARIABLES MOST_INVARIANTS MOST_DEEDS MOST_SPLITS
## stairwright/types.py
is_name is_carriers need_carriers is_type is_small is_value elements_of values_of cells_of
## stairwright/expressions.py
sort_of is_of sort_of_type names_in bound_in put_in
## stairwright/worths.py
worth part_worth
## stairwright/models.py
need_development is_development kept_in variables_to deed_of is_made
## stairwright/goals.py
goals_of goal_of asked_anew
## stairwright/papers.py
need_goal paper_of break_of
## stairwright/papercheck.py
check_paper check_break
## stairwright/runs.py
starts following is_run run_by
## stairwright/accounts.py
account_of check_account
## stairwright/breaks.py
run_that_breaks part_to
## stairwright/codes.py
is_code made_code
## stairwright/machine.py
Machine Machine.to_mark Machine.boxes Machine.done Machine.has_stopped run_of
## stairwright/ends.py
upheld is_upheld
## stairwright/texts.py
expression_text model_text development_text code_text read_expression read_model read_development read_code
## stairwright/book.py
Book Book.job Book.undo Book.redo Book.development Book.goals Book.still_open Book.paper Book.show Book.try_all Book.log
Book.open_jobs Book.copy Book.__eq__ Book.__len__ Book.__repr__
## stairwright/desk.py
Desk Desk.say
"""
METHODS = set("""append clear copy count endswith extend find get index insert isalnum isalpha isdigit islower isspace
    isupper items join keys ljust lower lstrip partition pop remove replace reverse rfind rjust rpartition rsplit
    rstrip setdefault split splitlines startswith strip update upper values zfill bit_length""".split())


def files():
    return sorted(PACKAGE.rglob("*.py"))


def trees():
    return [(path, ast.parse(path.read_text("ascii"))) for path in files()]


def names_of(node):
    """The names that it gives or reads, those of attributes, arguments and imports, too."""
    found = [getattr(node, field, None) for field in ("id", "attr", "arg", "name", "asname")]
    return [name for name in found if isinstance(name, str)]


def functions():
    return [(path, node) for path, tree in trees() for node in ast.walk(tree) if isinstance(node, ast.FunctionDef)]


class LanguageTest(unittest.TestCase):
    def test_the_folder_holds_nothing_else(self):
        # Rule L1.
        found = [path.name for path in PACKAGE.iterdir() if path.name != "__pycache__"]
        self.assertEqual([name for name in found if not name.endswith(".py")], [])
        self.assertIn("__init__.py", found)

    def test_signs_and_lengths_of_lines(self):
        # Rules L10, L14, L27.
        for path in files():
            with self.subTest(path.name):
                text = path.read_bytes().decode("ascii")
                self.assertEqual([sign for sign in text if not " " <= sign <= "~" and sign != "\n"], [])
                self.assertEqual([row for row in text.split("\n") if len(row) > 120], [])
                self.assertLessEqual(len(text.split("\n")), 400)

    def test_lengths_of_functions(self):
        # Rule L10.
        for path, node in functions():
            with self.subTest(f"{path.name}: {node.name}"):
                self.assertLessEqual(node.end_lineno - node.lineno + 1, 40)

    def test_imports(self):
        # Rules L2, L16: from the very file, by its full name.
        for path, tree in trees():
            for node in ast.walk(tree):
                with self.subTest(path.name):
                    self.assertNotIsInstance(node, ast.Import)
                if isinstance(node, ast.ImportFrom):
                    with self.subTest(f"{path.name}: {node.module}"):
                        self.assertEqual(node.level, 0)
                        self.assert_names_its_file(node)

    def assert_names_its_file(self, node):
        if node.module in LIBRARY:
            return
        top, _, name = node.module.partition(".")
        self.assertEqual(top, "stairwright")
        tree = ast.parse((PACKAGE / f"{name}.py").read_text("ascii"))
        bound = {part.name for part in tree.body if isinstance(part, (ast.FunctionDef, ast.ClassDef))}
        bound |= {part.targets[0].id for part in tree.body if isinstance(part, ast.Assign)}
        self.assertLessEqual({part.name for part in node.names}, bound)

    def test_no_two_files_import_from_each_other(self):
        # Rule L16: nor through other files; and what is imported is read.
        ahead = {}
        for path, tree in trees():
            imports = [node for node in ast.walk(tree) if isinstance(node, ast.ImportFrom)]
            ahead[path.stem] = [node.module.partition(".")[2] for node in imports]
            read = {node.id for node in ast.walk(tree) if isinstance(node, ast.Name)}
            with self.subTest(path.name):
                self.assertEqual({part.name for node in imports for part in node.names} - read, set())
        while ahead:
            ready = [name for name in ahead if not any(other in ahead for other in ahead[name])]
            self.assertNotEqual(ready, [], sorted(ahead))
            for name in ready:
                del ahead[name]

    def test_names_that_are_not_used(self):
        # Rule L17.
        for path, tree in trees():
            used = set()
            for node in ast.walk(tree):
                used |= {getattr(node, field, None) for field in ("id", "attr", "arg", "name")
                         if isinstance(getattr(node, field, None), str)}
            with self.subTest(path.name):
                self.assertEqual(used & BARRED, set())

    def test_plain_names(self):
        # Rule L12: a class's name begins with a letter; others may begin with one underscore.
        for path, tree in trees():
            for node in ast.walk(tree):
                for name in names_of(node):
                    with self.subTest(f"{path.name}: {name}", line=getattr(node, "lineno", None)):
                        self.assertRegex(name, r"^(_|_?[A-Za-z][A-Za-z0-9_]*|__(init|eq|repr|len)__)$")
                        self.assertNotRegex(name, BARRED_AHEAD)
                if isinstance(node, ast.ClassDef):
                    with self.subTest(f"{path.name}: class {node.name}", line=node.lineno):
                        self.assertRegex(node.name, r"^[A-Za-z][A-Za-z0-9_]*$")
                if isinstance(node, ast.Name) and isinstance(node.ctx, ast.Load):
                    self.assertNotEqual(node.id, "_", path.name)

    def test_any_and_all_take_lists(self):
        # Rule L7: a class of the package is to have an __eq__.
        for path, tree in trees():
            for node in ast.walk(tree):
                with self.subTest(path.name, line=getattr(node, "lineno", None)):
                    self.assertNotIsInstance(node, ast.GeneratorExp)

    def test_builtins(self):
        # Rule L8.
        for path, tree in trees():
            names = {node.id for node in ast.walk(tree) if isinstance(node, ast.Name)}
            with self.subTest(path.name):
                self.assertEqual(names & set(dir(builtins)) - BUILTINS, set())

    def test_names_that_have_a_meaning_already(self):
        # Rule L15.
        for path, tree in trees():
            taken = set(dir(builtins))
            for node in tree.body:
                if isinstance(node, ast.ImportFrom):
                    taken |= {part.name for part in node.names}
                if isinstance(node, ast.ClassDef):
                    taken.add(node.name)
            given = {node.arg for node in ast.walk(tree) if isinstance(node, ast.arg)}
            given |= {node.id for node in ast.walk(tree)
                      if isinstance(node, ast.Name) and isinstance(node.ctx, ast.Store)}
            with self.subTest(path.name):
                self.assertEqual(given & taken, set())

    def test_methods_and_attributes(self):
        # Rules L18, L25, L26.
        own, given, read, called = set(), set(), set(), set()
        for _, tree in trees():
            for node in ast.walk(tree):
                if isinstance(node, ast.ClassDef):
                    own |= {part.name for part in node.body if isinstance(part, ast.FunctionDef)}
                if isinstance(node, ast.Attribute):
                    (given if isinstance(node.ctx, ast.Store) else read).add(node.attr)
                if isinstance(node, ast.Call) and isinstance(node.func, ast.Attribute):
                    called.add(node.func.attr)
        self.assertEqual(called - own - METHODS, set())
        self.assertEqual(read - given - own - METHODS, set())
        of_builtins = {name for kind in (str, int, list, dict, set, bytes) for name in dir(kind)}
        self.assertEqual(given & of_builtins, set())

    def test_methods_that_are_attributes_too(self):
        # Rule L18.
        for path, tree in trees():
            for node in tree.body:
                if isinstance(node, ast.ClassDef):
                    names = [part.name for part in node.body if isinstance(part, ast.FunctionDef)]
                    given = {part.attr for part in ast.walk(node)
                             if isinstance(part, ast.Attribute) and isinstance(part.ctx, ast.Store)}
                    with self.subTest(f"{path.name}: {node.name}"):
                        self.assertEqual(len(names), len(set(names)))
                        self.assertEqual(given & set(names), set())

    def test_words_that_do_not_occur(self):
        # Rule L17: in no string but docstrings.
        for path, tree in trees():
            notes = {id(node.body[0].value) for node in ast.walk(tree)
                     if isinstance(node, (ast.Module, ast.ClassDef, ast.FunctionDef)) and node.body
                     and isinstance(node.body[0], ast.Expr)}
            for node in ast.walk(tree):
                if isinstance(node, ast.Constant) and isinstance(node.value, str) and id(node) not in notes:
                    with self.subTest(path.name, line=node.lineno):
                        self.assertEqual(set(re.findall(r"[A-Za-z_]+", node.value)) & WORDS_BARRED, set())
                        self.assertFalse(node.value.startswith("__") or node.value.endswith("._"))

    def test_each_thing_of_the_interface_is_where_it_is_listed(self):
        # Rules L5, L16.
        listed = re.findall(r"^## stairwright/(\w+)\.py\n(.*?)(?=^## |\Z)", INTERFACE, re.M | re.S)
        self.assertEqual(len(listed), 18)
        for name, text in listed:
            tree = ast.parse((PACKAGE / f"{name}.py").read_text("ascii"))
            made = {node.name: node for node in tree.body if isinstance(node, (ast.FunctionDef, ast.ClassDef))}
            made.update({node.targets[0].id: node for node in tree.body if isinstance(node, ast.Assign)})
            for word in text.split():
                top, _, method = word.partition(".")
                with self.subTest(name, word=word):
                    self.assertIn(top, made)
                    if method:
                        own = [part.name for part in made[top].body if isinstance(part, ast.FunctionDef)]
                        self.assertIn(method, own)

    def test_is_and_signs(self):
        # Rules L20, L7, L27.
        for path, tree in trees():
            for node in ast.walk(tree):
                with self.subTest(path.name, line=getattr(node, "lineno", None)):
                    if isinstance(node, ast.Compare):
                        for sign, other in zip(node.ops, node.comparators):
                            if isinstance(sign, (ast.Is, ast.IsNot)):
                                self.assertIsInstance(other, ast.Constant)
                                self.assertIn(other.value, (None, True, False))
                    self.assertNotIsInstance(node, (ast.Div, ast.Pow, ast.Global, ast.Yield))
                    if isinstance(node, ast.Constant):
                        self.assertNotIsInstance(node.value, float)
                        self.assertFalse(isinstance(node.value, str) and chr(37) in node.value)

    def test_python_gives_no_warning(self):
        # Rule L27.
        with warnings.catch_warnings():
            warnings.simplefilter("error")
            for path in files():
                compile(path.read_text("ascii"), path.name, "exec")


if __name__ == "__main__":
    unittest.main()
