"""The form of the package's files: those rules of the language that can be read off a file."""

import ast
import builtins
import pathlib
import re
import unittest

from staywalk import errors

PACKAGE = pathlib.Path(__file__).resolve().parent.parent / "staywalk"

BUILT_IN = set("""
    len range enumerate zip min max sum abs sorted reversed int str bool list tuple dict set frozenset
    isinstance ord repr any all divmod Exception ValueError TypeError KeyError IndexError LookupError
    ZeroDivisionError ArithmeticError OverflowError RuntimeError NotImplementedError AttributeError
    StopIteration
""".split())

NODES = set("""
    Module FunctionDef Lambda ClassDef arguments arg keyword ImportFrom alias Load Store
    Assign AugAssign If While For Return Break Continue Pass Raise Try ExceptHandler Expr
    Constant List Tuple Dict Set Name Attribute Subscript Slice Call IfExp ListComp comprehension
    JoinedStr FormattedValue BinOp BoolOp UnaryOp Compare
    Add Sub Mult FloorDiv Mod Pow LShift RShift BitOr BitXor BitAnd And Or Not Invert USub UAdd
    Eq NotEq Lt LtE Gt GtE Is IsNot In NotIn
""".split())

DUNDER = {"__init__", "__eq__", "__repr__", "__str__", "__len__", "__all__", "__version__"}

WHOLE_WORDS = re.compile(
    r"\b(type|typing|typing_extensions|enum|Enum|IntEnum|StrEnum|Flag|IntFlag|Generic|Protocol|ABC|ABCMeta"
    r"|namedtuple|NamedTuple|TypedDict|TYPE_CHECKING|abstractmethod)\b"
)
PARTS_OF_WORDS = re.compile(r"dataclass|overload|contextmanager")

# The methods of Python's own values that may be called, and those of their names that a value may have.
PYTHONS_METHODS = set("""
    append clear copy count endswith extend find get index insert isalnum isalpha isdigit islower isspace
    isupper items join keys ljust lower lstrip partition pop remove replace reverse rfind rjust rpartition
    rsplit rstrip setdefault split splitlines startswith strip update upper values zfill bit_length
""".split())
NAMES_OF_VALUES = set("count index title find get join lower upper split strip copy add".split())
PYTHONS_NAMES = {name for kind in (str, int, list, tuple, dict, set, frozenset, bytes, bytearray) for name in dir(kind)}


# Names that are used nowhere, or not as names.
NO_NAMES = set("""
    register mro elements open input version_info with_traceback add_note attrgetter breakpoint builtins compile
    copyright credits delattr dir eval exec exit gc getattr globals hasattr help id importlib license locals
    methodcaller os quit setattr super type vars sys chr format format_map
""".split())

# What is walked on the spot, and what may stand around it.
WALKED_NAMES = {"zip", "enumerate", "reversed", "range"}
WALKED_METHODS = {"items", "keys", "values"}
WALKERS = {"list", "tuple", "dict", "sorted", "sum", "any", "all", "enumerate", "zip", "min", "max"}


def files():
    return [path for path in sorted(PACKAGE.rglob("*")) if "__pycache__" not in path.parts]


def source(path):
    return path.read_bytes().decode("ascii")


def nodes(path):
    return list(ast.walk(ast.parse(source(path))))


def names_in(node):
    """The names that a node brings in or speaks of."""
    if isinstance(node, ast.Name):
        return [node.id]
    if isinstance(node, ast.Attribute):
        return [node.attr]
    if isinstance(node, ast.arg):
        return [node.arg]
    if isinstance(node, (ast.FunctionDef, ast.ClassDef)):
        return [node.name]
    return []


def classes():
    return [node for path in files() for node in nodes(path) if isinstance(node, ast.ClassDef)]


def methods():
    """The names of all methods in the package."""
    return {node.name for one in classes() for node in one.body if isinstance(node, ast.FunctionDef)}


def fields():
    """The names of all values that are given to an object in the package."""
    found = [node for path in files() for node in nodes(path) if isinstance(node, ast.Attribute)]
    return {node.attr for node in found if isinstance(node.ctx, ast.Store)}


def bound_within(function):
    """The parameters and the locals of a function."""
    found = [node.arg for node in ast.walk(function) if isinstance(node, ast.arg)]
    names = [node for node in ast.walk(function) if isinstance(node, ast.Name)]
    return found + [node.id for node in names if isinstance(node.ctx, ast.Store)]


def drawn_from(path):
    """The modules of the package that a file imports from."""
    return {node.module for node in nodes(path) if isinstance(node, ast.ImportFrom)}


def tops(path):
    """The names that are given a value at a file's top, and these values."""
    given = [node for node in ast.parse(source(path)).body if isinstance(node, ast.Assign)]
    return {node.targets[0].id: node.value for node in given}


def functions(path):
    return {node.name for node in ast.parse(source(path)).body if isinstance(node, ast.FunctionDef)}


def is_plain(value, defined):
    """Whether a value may stand at a file's top: a list or a dict holds no list or dict itself."""
    within = []
    if isinstance(value, ast.Dict):
        within = value.keys + value.values
    if isinstance(value, (ast.List, ast.Tuple)):
        within = value.elts
    for one in within:
        if isinstance(one, (ast.Dict, ast.List)) or not is_plain(one, defined):
            return False
    named = isinstance(value, ast.Name) and value.id in defined
    return named or isinstance(value, (ast.Constant, ast.Dict, ast.List, ast.Tuple))


def called(node):
    """The name or the method that a node calls; None where it calls none."""
    if not isinstance(node, ast.Call):
        return None
    return node.func.attr if isinstance(node.func, ast.Attribute) else node.func.id


def is_walked(node):
    """Whether a node is a call whose answer is to be walked on the spot."""
    if isinstance(node, ast.Call) and isinstance(node.func, ast.Attribute):
        return node.func.attr in WALKED_METHODS
    return called(node) in WALKED_NAMES


def walks(node):
    """What a node walks."""
    if isinstance(node, (ast.For, ast.comprehension)):
        return [node.iter]
    if isinstance(node, ast.Call) and isinstance(node.func, ast.Name) and node.func.id in WALKERS:
        alone = node.func.id in ("min", "max") and len(node.args) != 1
        return [] if alone else node.args[:None if node.func.id == "zip" else 1]
    return []


class Files(unittest.TestCase):

    def test_only_plain_python_files(self):
        self.assertTrue((PACKAGE / "__init__.py").is_file())
        for path in files():
            self.assertTrue(path.is_file(), path)
            self.assertRegex(path.name, r"^(__init__|[a-z][a-z0-9_]*)\.py$")

    def test_signs(self):
        for path in files():
            for sign in path.read_bytes():
                self.assertTrue(sign == 10 or 32 <= sign <= 126, (path, sign))

    def test_sizes(self):
        for path in files():
            rows = source(path).splitlines()
            self.assertLessEqual(len(rows), 400, path)
            self.assertLessEqual(max(len(row) for row in rows), 120, path)
            for node in nodes(path):
                if isinstance(node, ast.FunctionDef):
                    self.assertLessEqual(node.end_lineno - node.lineno + 1, 40, (path, node.name))

    def test_words_that_stand_nowhere(self):
        for path in files():
            self.assertIsNone(WHOLE_WORDS.search(source(path)), path)
            self.assertIsNone(PARTS_OF_WORDS.search(source(path)), path)


class Code(unittest.TestCase):

    def test_statements_and_expressions(self):
        for path in files():
            for node in nodes(path):
                self.assertIn(node.__class__.__name__, NODES, path)

    def test_imports_are_of_the_package_alone(self):
        for path in files():
            for node in nodes(path):
                if isinstance(node, ast.ImportFrom) and node.module != "__future__":
                    self.assertEqual(node.level, 0, path)
                    self.assertRegex(node.module, r"^staywalk\.")
                    self.assertNotIn("*", [name.name for name in node.names], path)

    def test_no_two_files_draw_from_one_another(self):
        reach = {"staywalk." + path.stem: drawn_from(path) for path in files()}
        for again in reach:
            for name in reach:
                reach[name] = reach[name].union(*[reach.get(other, set()) for other in reach[name]])
        for name in reach:
            self.assertNotIn(name, reach[name])

    def test_walked_on_the_spot(self):
        for path in files():
            found = nodes(path)
            spots = {id(one) for node in found for one in walks(node)}
            for node in found:
                if is_walked(node):
                    self.assertIn(id(node), spots, (path, node.lineno))

    def test_no_sets_and_no_lists_that_are_kept_at_the_top(self):
        for path in files():
            for node in nodes(path):
                self.assertNotIsInstance(node, ast.Set, path)
                self.assertNotIn(called(node), ("set", "frozenset"), path)
            for name, value in tops(path).items():
                self.assertTrue(is_plain(value, functions(path)), (path, name))

    def test_a_dict_of_the_top_is_only_read(self):
        for path in files():
            kept = {name for name, value in tops(path).items() if isinstance(value, (ast.Dict, ast.List))}
            found = nodes(path)
            reads = {id(node.value) for node in found if isinstance(node, ast.Subscript) and isinstance(node.ctx, ast.Load)}
            reads |= {id(side) for node in found if isinstance(node, ast.Compare) for side in node.comparators}
            for node in found:
                if isinstance(node, ast.Name) and node.id in kept and isinstance(node.ctx, ast.Load):
                    self.assertIn(id(node), reads, (path, node.lineno))

    def test_names_of_the_top_are_bound_once(self):
        for path in files():
            taken = set(tops(path)) | functions(path)
            for node in nodes(path):
                if isinstance(node, ast.FunctionDef):
                    self.assertEqual(taken & set(bound_within(node)), set(), (path, node.name))
            names = [node.targets[0].id for node in ast.parse(source(path)).body if isinstance(node, ast.Assign)]
            self.assertEqual(len(names), len(set(names)), path)

    def test_names(self):
        for path in files():
            for node in nodes(path):
                for name in names_in(node):
                    self.assertTrue(name in DUNDER or not name.startswith("_"), (path, name))

    def test_built_in_names(self):
        for path in files():
            for node in nodes(path):
                if isinstance(node, ast.Name) and hasattr(builtins, node.id):
                    self.assertIn(node.id, BUILT_IN, path)
                    self.assertIsInstance(node.ctx, ast.Load, (path, node.id))
                if isinstance(node, ast.arg):
                    self.assertFalse(hasattr(builtins, node.arg), (path, node.arg))

    def test_forms_of_statements(self):
        for path in files():
            for node in nodes(path):
                if isinstance(node, ast.Assign):
                    self.assertEqual(len(node.targets), 1, (path, node.lineno))
                if isinstance(node, (ast.For, ast.While)):
                    self.assertEqual(node.orelse, [], (path, node.lineno))
                if isinstance(node, ast.Try):
                    self.assertEqual(node.finalbody, [], (path, node.lineno))
                if isinstance(node, ast.ListComp):
                    self.assertEqual(len(node.generators), 1, (path, node.lineno))
                    self.assertLessEqual(len(node.generators[0].ifs), 1, (path, node.lineno))

    def test_parameters_are_plain(self):
        for path in files():
            for node in nodes(path):
                if isinstance(node, ast.arguments):
                    others = (node.vararg, node.kwarg, node.kwonlyargs, node.posonlyargs)
                    self.assertEqual(others, (None, None, [], []), path)
                    for default in node.defaults:
                        self.assertIsInstance(default, ast.Constant, path)

    def test_is_stands_beside_none_and_the_truths(self):
        for path in files():
            for node in nodes(path):
                if isinstance(node, ast.Compare) and isinstance(node.ops[0], (ast.Is, ast.IsNot)):
                    sides = [side for side in [node.left] + node.comparators if isinstance(side, ast.Constant)]
                    self.assertTrue(any(side.value is None or isinstance(side.value, bool) for side in sides), (path, node.lineno))

    def test_locals_are_not_called_like_a_class_or_an_import(self):
        for path in files():
            tree = ast.parse(source(path))
            taken = {node.name for node in tree.body if isinstance(node, ast.ClassDef)}
            for node in tree.body:
                if isinstance(node, ast.ImportFrom):
                    taken |= {name.name for name in node.names}
            for node in ast.walk(tree):
                if isinstance(node, ast.FunctionDef):
                    self.assertEqual(taken & set(bound_within(node)), set(), (path, node.name))

    def test_no_name_is_a_method_and_a_value(self):
        self.assertEqual(methods() & fields(), set())

    def test_names_of_methods_and_values(self):
        free = PYTHONS_METHODS | {"add", "discard"}
        self.assertEqual((methods() & PYTHONS_NAMES) - free - DUNDER, set())
        self.assertEqual((fields() & PYTHONS_NAMES) - NAMES_OF_VALUES, set())

    def test_no_method_stands_twice_in_a_class(self):
        for one in classes():
            names = [node.name for node in one.body if isinstance(node, ast.FunctionDef)]
            self.assertEqual(len(names), len(set(names)), one.name)

    def test_methods_that_are_called(self):
        known = methods() | PYTHONS_METHODS
        for path in files():
            for node in nodes(path):
                if isinstance(node, ast.Call) and isinstance(node.func, ast.Attribute):
                    self.assertIn(node.func.attr, known, (path, node.lineno))

    def test_names_that_are_not_used(self):
        for path in files():
            for node in nodes(path):
                self.assertEqual(NO_NAMES & set(names_in(node)), set(), (path, getattr(node, "lineno", None)))

    def test_errors_are_the_programs_own(self):
        own = {node.name for node in classes() if node.name in dir(errors)}
        for path in files():
            for node in nodes(path):
                if isinstance(node, ast.ExceptHandler):
                    taken = node.type.elts if isinstance(node.type, ast.Tuple) else [node.type]
                    self.assertLessEqual({one.id for one in taken}, own, (path, node.lineno))
                if isinstance(node, ast.Raise):
                    self.assertIn(called(node.exc), own, (path, node.lineno))

    def test_texts(self):
        for path in files():
            for node in nodes(path):
                if isinstance(node, ast.Constant) and isinstance(node.value, str):
                    self.assertNotIn("%", node.value, (path, node.lineno))
                if isinstance(node, ast.FormattedValue):
                    self.assertIsInstance(node.value, ast.Name, (path, node.lineno))
                    self.assertIsNone(node.format_spec, (path, node.lineno))

    def test_no_decorators(self):
        for path in files():
            for node in nodes(path):
                if isinstance(node, (ast.FunctionDef, ast.ClassDef)):
                    self.assertEqual(node.decorator_list, [], (path, node.name))


if __name__ == "__main__":
    unittest.main()
