"""Point 1 (no clock, chance or files), and the part of Python that the package's files keep to."""

import ast
import builtins
import re
import unittest
from pathlib import Path

PACKAGE = Path(__file__).resolve().parent.parent / "warebids"
FILES = sorted(PACKAGE.rglob("*.py"))

NODES = set("""
    Module FunctionDef ClassDef arguments arg Lambda Return Assign AugAssign For While If Raise Try ExceptHandler
    ImportFrom alias Expr Pass Break Continue BoolOp And Or BinOp Add Sub Mult FloorDiv Mod UnaryOp Not USub IfExp
    Dict List Tuple ListComp comprehension Compare Eq NotEq Lt LtE Gt GtE Is IsNot In NotIn Call keyword Attribute
    Subscript Slice Name Load Store Constant
""".split())
BUILTINS = set("""
    len range enumerate zip min max sum abs sorted reversed int str bool list tuple dict set isinstance ord repr any all
    divmod Exception ValueError TypeError KeyError IndexError LookupError ZeroDivisionError ArithmeticError
    OverflowError RuntimeError NotImplementedError StopIteration
""".split())
METHODS = set("""
    append clear copy count endswith extend find get index insert isalnum isalpha isdigit islower isspace isupper items
    join keys ljust lower lstrip partition pop remove replace reverse rfind rjust rpartition rsplit rstrip setdefault
    split splitlines startswith strip update upper values zfill bit_length
""".split())
WORDS = set("""
    type typing typing_extensions enum Enum IntEnum StrEnum Flag IntFlag Generic Protocol ABC ABCMeta namedtuple
    NamedTuple TypedDict TYPE_CHECKING abstractmethod
""".split())


def bound_names(tree):
    for node in ast.walk(tree):
        if isinstance(node, (ast.FunctionDef, ast.ClassDef)):
            yield node.name
        elif isinstance(node, ast.arg):
            yield node.arg
        elif isinstance(node, ast.Name) and isinstance(node.ctx, ast.Store):
            yield node.id
        elif isinstance(node, ast.alias):
            yield node.asname or node.name


class Language(unittest.TestCase):
    def each_file(self):
        for path in FILES:
            source = path.read_bytes().decode("ascii")
            with self.subTest(file=path.name):
                yield path, source, ast.parse(source)

    def test_files(self):
        self.assertEqual([path.name for path in FILES], ["__init__.py", "bids.py", "errors.py", "paying.py"])
        others = [path for path in PACKAGE.iterdir() if path.name != "__pycache__" and path not in FILES]
        self.assertEqual(others, [])

    def test_signs_and_sizes(self):
        for path, source, tree in self.each_file():
            self.assertIsNone(re.search(r"[^\n -~]", source))
            self.assertLessEqual(len(source.splitlines()), 400)
            self.assertLessEqual(max(map(len, source.splitlines())), 120)
            for node in ast.walk(tree):
                if isinstance(node, ast.FunctionDef):
                    self.assertLessEqual(node.end_lineno - node.lineno + 1, 40, node.name)

    def test_words(self):
        for path, source, tree in self.each_file():
            self.assertEqual(WORDS & set(re.findall(r"\w+", source)), set())
            self.assertIsNone(re.search("dataclass|overload|contextmanager", source))

    def test_imports_are_the_packages_own(self):
        modules = ["warebids.errors", "warebids.bids", "warebids.paying"]
        for path, source, tree in self.each_file():
            for node in ast.walk(tree):
                self.assertNotIsInstance(node, ast.Import)
                if isinstance(node, ast.ImportFrom):
                    self.assertIn(node, tree.body)
                    self.assertEqual(node.level, 0)
                    self.assertIn(node.module, modules)
                    # A file draws only from files ahead of it in this list, so none draw from one another.
                    self.assertLess(modules.index(node.module), modules.index("warebids." + path.stem))

    def test_statements_and_expressions(self):
        for path, source, tree in self.each_file():
            for node in ast.walk(tree):
                self.assertIn(node.__class__.__name__, NODES)
                if isinstance(node, ast.Expr) and node is not tree.body[0]:
                    self.assertIsInstance(node.value, ast.Call)
                if isinstance(node, ast.Constant):
                    self.assertIn(type(node.value), (int, str, bool, type(None)))
                if isinstance(node, (ast.FunctionDef, ast.ClassDef)):
                    self.assertEqual(node.decorator_list, [])
                if isinstance(node, ast.Assign):
                    self.assertEqual(len(node.targets), 1)

    def test_names(self):
        for path, source, tree in self.each_file():
            bound = set(bound_names(tree))
            self.assertEqual(bound & set(dir(builtins)), set())
            for name in bound:
                self.assertRegex(name, r"\A[A-Za-z][A-Za-z0-9_]*\Z")
            read = {node.id for node in ast.walk(tree) if isinstance(node, ast.Name)}
            self.assertLessEqual(read - bound, BUILTINS)

    def test_methods(self):
        for path, source, tree in self.each_file():
            for node in ast.walk(tree):
                if isinstance(node, ast.Attribute):
                    self.assertIn(node.attr, METHODS)

    def test_the_top_of_a_file_keeps_nothing(self):
        for path, source, tree in self.each_file():
            self.assertIsNotNone(ast.get_docstring(tree))
            for node in tree.body[1:]:
                self.assertIsInstance(node, (ast.ImportFrom, ast.FunctionDef, ast.ClassDef))


if __name__ == "__main__":
    unittest.main()
