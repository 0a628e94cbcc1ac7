"""Some rules of LANGUAGE.md that are easily broken by mistake; the document tells them all."""

import ast
import builtins
import pathlib
import re
import unittest
import warnings

PACKAGE = pathlib.Path(__file__).resolve().parent.parent / "heldafar"
FILES = sorted(PACKAGE.glob("**/*.py"))
BARRED = re.compile(
    r"\b(type|typing|typing_extensions|enum|Enum|IntEnum|StrEnum|Flag|IntFlag|Generic|Protocol|ABC|ABCMeta|namedtuple|"
    r"NamedTuple|TypedDict|TYPE_CHECKING|abstractmethod)\b|dataclass|overload|contextmanager")
FUNCTIONS = (ast.FunctionDef, ast.Lambda)
NOT_USED = (ast.Global, ast.AsyncFunctionDef, ast.AsyncFor, ast.AsyncWith, ast.Await, ast.Div, ast.Import)


def bound_names(tree):
    """All names that a file binds in functions, as parameters or variables."""
    for function in ast.walk(tree):
        if isinstance(function, FUNCTIONS):
            for node in ast.walk(function):
                if isinstance(node, ast.arg):
                    yield node.arg
                elif isinstance(node, ast.Name) and isinstance(node.ctx, ast.Store):
                    yield node.id


def methods_and_attributes(tree):
    methods = {function.name for kind in ast.walk(tree) if isinstance(kind, ast.ClassDef)
               for function in kind.body if isinstance(function, ast.FunctionDef)}
    attributes = {node.attr for node in ast.walk(tree)
                  if isinstance(node, ast.Attribute) and isinstance(node.ctx, ast.Store)}
    return methods, attributes


def trees():
    """Each file's text and tree."""
    for file in FILES:
        text = file.read_text(encoding="utf-8")
        yield text, ast.parse(text, str(file))


class LanguageTest(unittest.TestCase):
    def test_there_are_files(self):
        self.assertIn(PACKAGE / "__init__.py", FILES)
        self.assertGreater(len(FILES), 3)

    def test_python_warns_of_nothing(self):
        for text, tree in trees():
            with warnings.catch_warnings():
                warnings.simplefilter("error")
                compile(text, "file", "exec")

    def test_sizes_and_characters(self):
        for text, tree in trees():
            self.assertLessEqual(text.count("\n"), 400)
            self.assertLessEqual(max(map(len, text.split("\n"))), 120)
            self.assertIsNone(re.search(r"[^\n -~]", text))
            self.assertIsNone(BARRED.search(text))
            for node in ast.walk(tree):
                if isinstance(node, ast.FunctionDef):
                    self.assertLessEqual(node.end_lineno - node.lineno + 1, 40, node.name)

    def test_imports(self):
        for text, tree in trees():
            for node in ast.walk(tree):
                if isinstance(node, ast.ImportFrom):
                    self.assertEqual(node.level, 0)
                    self.assertTrue(node.module.startswith("heldafar."), node.module)
                    self.assertTrue((PACKAGE / (node.module.partition(".")[2] + ".py")).is_file(), node.module)

    def test_names(self):
        for text, tree in trees():
            taken = {node.name for node in tree.body if isinstance(node, ast.ClassDef)}
            for node in tree.body:
                if isinstance(node, ast.ImportFrom):
                    taken |= {alias.asname or alias.name for alias in node.names}
            for name in bound_names(tree):
                self.assertFalse(name.startswith("_"), name)
                self.assertFalse(hasattr(builtins, name), name)
                self.assertNotIn(name, taken)

    def test_what_is_not_used(self):
        for text, tree in trees():
            for node in ast.walk(tree):
                self.assertNotIsInstance(node, NOT_USED)
                if isinstance(node, ast.Constant):
                    self.assertNotIsInstance(node.value, float)
                    self.assertFalse(isinstance(node.value, str) and "%" in node.value)
                if isinstance(node, (ast.FunctionDef, ast.ClassDef)):
                    for decorator in node.decorator_list:
                        self.assertIn(ast.unparse(decorator), ("property", "staticmethod", "classmethod"))

    def test_no_name_is_a_method_and_an_attribute(self):
        methods, attributes = set(), set()
        for text, tree in trees():
            more_methods, more_attributes = methods_and_attributes(tree)
            methods |= more_methods
            attributes |= more_attributes
        self.assertEqual(methods & attributes, set())
