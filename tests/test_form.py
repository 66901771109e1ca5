"""Tests of the form of the code: what shared/LANGUAGE.md limits and a test can count."""

import ast
import builtins
import pathlib
import re
import unittest

PACKAGE = pathlib.Path(__file__).resolve().parent.parent / "vouchdoor"
FILES = sorted(PACKAGE.rglob("*.py"))
LIBRARY = ["heapq", "math", "itertools", "collections"]
# L8, without what L19 and L27 take away again.
BUILTINS = """len range enumerate zip min max sum abs sorted reversed int str bool bytes list tuple dict set
    isinstance ord repr any all divmod ValueError KeyError IndexError""".split()
# L25, the first list.
METHODS = """append clear copy count endswith extend find get index insert isalnum isalpha isdigit islower isspace
    isupper items join keys ljust lower lstrip partition pop remove replace reverse rfind rjust rpartition rsplit
    rstrip setdefault split splitlines startswith strip update upper values zfill bit_length""".split()
# L17, and what L12 adds.
NAMES = ["register", "mro", "elements", "open", "input", "law", "version_info", "with_traceback", "add_note"]
WORDS = """type typing typing_extensions enum Enum IntEnum StrEnum Flag IntFlag Generic Protocol ABC ABCMeta namedtuple
    NamedTuple TypedDict TYPE_CHECKING abstractmethod dataclass overload contextmanager _wall _WallAttr""".split()
# The package does without these, so that the rules about them hold.
DO_WITHOUT = (ast.Try, ast.With, ast.Match, ast.Lambda, ast.GeneratorExp, ast.Yield, ast.YieldFrom, ast.Set,
              ast.SetComp, ast.NamedExpr, ast.Global, ast.Nonlocal, ast.Delete, ast.Assert, ast.AnnAssign, ast.Pow,
              ast.AsyncFunctionDef, ast.Await)


def tree_of(file):
    return ast.parse(file.read_text(encoding="utf-8"))


class FormTest(unittest.TestCase):

    def test_folder_has_nothing_but_python_files(self):
        self.assertIn(PACKAGE / "__init__.py", FILES)
        for path in PACKAGE.rglob("*"):
            if "__pycache__" not in path.parts:
                self.assertRegex(path.name, r"\A[a-z0-9_]+\.py\Z")

    def test_characters(self):
        for file in FILES:
            for character in file.read_text(encoding="utf-8"):
                self.assertTrue(character == "\n" or " " <= character <= "~", (file.name, character))

    def test_lengths_of_files_and_lines(self):
        for file in FILES:
            lines = file.read_text(encoding="utf-8").split("\n")
            self.assertLessEqual(len(lines), 399, file.name)
            for line in lines:
                self.assertLessEqual(len(line), 120, (file.name, line))

    def test_lengths_of_functions(self):
        for file in FILES:
            for node in ast.walk(tree_of(file)):
                if isinstance(node, ast.FunctionDef):
                    self.assertLessEqual(node.end_lineno - node.lineno + 1, 40, (file.name, node.name))

    def test_imports(self):
        for file in FILES:
            for node in ast.walk(tree_of(file)):
                self.assertNotIsInstance(node, ast.Import, file.name)
                if isinstance(node, ast.ImportFrom):
                    own = node.level == 0 and node.module.startswith("vouchdoor.")
                    self.assertTrue(own or node.module in LIBRARY, (file.name, node.module))

    def test_no_floats_and_no_division(self):
        for file in FILES:
            for node in ast.walk(tree_of(file)):
                self.assertNotIsInstance(node, ast.Div, file.name)
                if isinstance(node, ast.Constant):
                    self.assertNotIsInstance(node.value, (float, complex), file.name)

    def test_plain_statements(self):
        for file in FILES:
            for node in ast.walk(tree_of(file)):
                self.assertNotIsInstance(node, DO_WITHOUT, (file.name, getattr(node, "lineno", None)))
                if isinstance(node, (ast.FunctionDef, ast.ClassDef)):
                    self.assertEqual(node.decorator_list, [], (file.name, node.name))

    def test_names_that_are_bound(self):
        for file in FILES:
            tree = tree_of(file)
            taken = {node.name for node in tree.body if isinstance(node, ast.ClassDef)}
            taken |= {alias.name for node in tree.body if isinstance(node, ast.ImportFrom) for alias in node.names}
            for name in bound_names(tree):
                self.assertNotIn(name, dir(builtins), file.name)
                self.assertNotIn(name, NAMES, file.name)
                self.assertRegex(name, r"\A_?[A-Za-z][A-Za-z0-9_]*\Z|\A_\Z|\A__(init|eq)__\Z")
            for node in ast.walk(tree):
                if isinstance(node, ast.arg) or isinstance(node, ast.Name) and isinstance(node.ctx, ast.Store):
                    name = node.arg if isinstance(node, ast.arg) else node.id
                    self.assertNotIn(name, taken, (file.name, node.lineno))

    def test_builtins_and_methods(self):
        own = {node.name for file in FILES for node in ast.walk(tree_of(file)) if isinstance(node, ast.FunctionDef)}
        for file in FILES:
            for node in ast.walk(tree_of(file)):
                if isinstance(node, ast.Name) and isinstance(node.ctx, ast.Load) and node.id in dir(builtins):
                    self.assertIn(node.id, BUILTINS, (file.name, node.lineno))
                if isinstance(node, ast.Call) and isinstance(node.func, ast.Attribute):
                    self.assertIn(node.func.attr, own | set(METHODS), (file.name, node.lineno))

    def test_attributes_are_assigned(self):
        assigned, methods, read = set(), set(), set()
        for file in FILES:
            for node in ast.walk(tree_of(file)):
                if isinstance(node, ast.Attribute):
                    (assigned if isinstance(node.ctx, ast.Store) else read).add(node.attr)
                if isinstance(node, ast.ClassDef):
                    methods |= {inner.name for inner in node.body if isinstance(inner, ast.FunctionDef)}
        self.assertLessEqual(read, assigned | methods | set(METHODS))
        self.assertEqual(assigned & methods, set())
        self.assertEqual(assigned & set(METHODS), set())

    def test_words(self):
        for file in FILES:
            for word in WORDS:
                self.assertIsNone(re.search(rf"\b{word}\b", file.read_text(encoding="utf-8")), (file.name, word))
            self.assertNotIn("%", "".join(strings_of(tree_of(file))), file.name)

    def test_imports_name_the_file_that_defines(self):
        order = ["errors", "numbers", "group", "statement", "claim", "issuer", "policy", "question", "showing",
                 "wallet"]
        for file in FILES:
            for node in ast.walk(tree_of(file)):
                if isinstance(node, ast.ImportFrom):
                    name = node.module.removeprefix("vouchdoor.")
                    # Each file imports only from those ahead of it, so that no two import from each other.
                    self.assertLess(order.index(name), order.index(file.stem))
                    defined = {inner.name for inner in tree_of(PACKAGE / f"{name}.py").body
                               if isinstance(inner, (ast.FunctionDef, ast.ClassDef))}
                    defined |= {target.id for inner in tree_of(PACKAGE / f"{name}.py").body
                                if isinstance(inner, ast.Assign) for target in inner.targets}
                    for alias in node.names:
                        self.assertIn(alias.name, defined)
                        self.assertIsNone(alias.asname)

    def test_nothing_is_unused(self):
        for file in FILES:
            tree = tree_of(file)
            loaded = {node.id for node in ast.walk(tree) if isinstance(node, ast.Name)
                      and isinstance(node.ctx, ast.Load)}
            imported = {alias.name for node in tree.body if isinstance(node, ast.ImportFrom) for alias in node.names}
            self.assertLessEqual(imported, loaded, file.name)
            private = {node.name for node in tree.body if isinstance(node, ast.FunctionDef) and node.name[0] == "_"}
            self.assertLessEqual(private, loaded, file.name)


def bound_names(tree):
    """The names of functions, classes, parameters and variables."""
    for node in ast.walk(tree):
        if isinstance(node, (ast.FunctionDef, ast.ClassDef)):
            yield node.name
        elif isinstance(node, ast.arg):
            yield node.arg
        elif isinstance(node, ast.Name) and isinstance(node.ctx, ast.Store):
            yield node.id


def strings_of(tree):
    return [node.value for node in ast.walk(tree) if isinstance(node, ast.Constant) and isinstance(node.value, str)]


if __name__ == "__main__":
    unittest.main()
