"""The form of the package's files: those rules of the language that can be read off a file."""

import ast
import builtins
import pathlib
import re
import unittest

PACKAGE = pathlib.Path(__file__).resolve().parent.parent / "staywalk"

BUILT_IN = set("""
    len range enumerate zip min max sum abs sorted reversed int str bool list tuple dict set frozenset
    isinstance ord repr any all divmod Exception ValueError TypeError KeyError IndexError LookupError
    ZeroDivisionError ArithmeticError OverflowError RuntimeError NotImplementedError AttributeError
    StopIteration
""".split())

NODES = set("""
    Module FunctionDef Lambda ClassDef arguments arg keyword ImportFrom alias Load Store
    Assign AugAssign If While For Return Break Continue Pass Raise Try ExceptHandler Expr
    Constant List Tuple Dict Set Name Attribute Subscript Slice Call IfExp ListComp comprehension
    JoinedStr FormattedValue BinOp BoolOp UnaryOp Compare
    Add Sub Mult FloorDiv Mod Pow LShift RShift BitOr BitXor BitAnd And Or Not Invert USub UAdd
    Eq NotEq Lt LtE Gt GtE Is IsNot In NotIn
""".split())

DUNDER = {"__init__", "__eq__", "__repr__", "__str__", "__len__", "__all__", "__version__"}

WHOLE_WORDS = re.compile(
    r"\b(type|typing|typing_extensions|enum|Enum|IntEnum|StrEnum|Flag|IntFlag|Generic|Protocol|ABC|ABCMeta"
    r"|namedtuple|NamedTuple|TypedDict|TYPE_CHECKING|abstractmethod)\b"
)
PARTS_OF_WORDS = re.compile(r"dataclass|overload|contextmanager")


def files():
    return [path for path in sorted(PACKAGE.rglob("*")) if "__pycache__" not in path.parts]


def source(path):
    return path.read_bytes().decode("ascii")


def nodes(path):
    return list(ast.walk(ast.parse(source(path))))


def names_in(node):
    """The names that a node brings in or speaks of."""
    if isinstance(node, ast.Name):
        return [node.id]
    if isinstance(node, ast.Attribute):
        return [node.attr]
    if isinstance(node, ast.arg):
        return [node.arg]
    if isinstance(node, (ast.FunctionDef, ast.ClassDef)):
        return [node.name]
    return []


class Files(unittest.TestCase):

    def test_only_plain_python_files(self):
        self.assertTrue((PACKAGE / "__init__.py").is_file())
        for path in files():
            self.assertTrue(path.is_file(), path)
            self.assertRegex(path.name, r"^(__init__|[a-z][a-z0-9_]*)\.py$")

    def test_signs(self):
        for path in files():
            for sign in path.read_bytes():
                self.assertTrue(sign == 10 or 32 <= sign <= 126, (path, sign))

    def test_sizes(self):
        for path in files():
            rows = source(path).splitlines()
            self.assertLessEqual(len(rows), 400, path)
            self.assertLessEqual(max(len(row) for row in rows), 120, path)
            for node in nodes(path):
                if isinstance(node, ast.FunctionDef):
                    self.assertLessEqual(node.end_lineno - node.lineno + 1, 40, (path, node.name))

    def test_words_that_stand_nowhere(self):
        for path in files():
            self.assertIsNone(WHOLE_WORDS.search(source(path)), path)
            self.assertIsNone(PARTS_OF_WORDS.search(source(path)), path)


class Code(unittest.TestCase):

    def test_statements_and_expressions(self):
        for path in files():
            for node in nodes(path):
                self.assertIn(node.__class__.__name__, NODES, path)

    def test_imports_are_of_the_package_alone(self):
        for path in files():
            for node in nodes(path):
                if isinstance(node, ast.ImportFrom) and node.module != "__future__":
                    self.assertEqual(node.level, 0, path)
                    self.assertRegex(node.module, r"^staywalk\.")
                    self.assertNotIn("*", [name.name for name in node.names], path)

    def test_names(self):
        for path in files():
            for node in nodes(path):
                for name in names_in(node):
                    self.assertTrue(name in DUNDER or not name.startswith("_"), (path, name))

    def test_built_in_names(self):
        for path in files():
            for node in nodes(path):
                if isinstance(node, ast.Name) and hasattr(builtins, node.id):
                    self.assertIn(node.id, BUILT_IN, path)
                    self.assertIsInstance(node.ctx, ast.Load, (path, node.id))
                if isinstance(node, ast.arg):
                    self.assertFalse(hasattr(builtins, node.arg), (path, node.arg))

    def test_no_decorators(self):
        for path in files():
            for node in nodes(path):
                if isinstance(node, (ast.FunctionDef, ast.ClassDef)):
                    self.assertEqual(node.decorator_list, [], (path, node.name))


if __name__ == "__main__":
    unittest.main()
