"""The form in which the package is written, as far as it can be read off its files."""

import ast
import builtins
import re
import unittest
from pathlib import Path

PACKAGE = Path(__file__).resolve().parent.parent / "graphpoly"
MOST_FUNCTION_LINES = 40
MOST_FILE_LINES = 400
MOST_LINE_SIGNS = 120
BUILT_INS = set("""len range enumerate zip min max sum abs sorted reversed int str bool list tuple dict set frozenset
    isinstance ord repr any all divmod Exception ValueError TypeError KeyError IndexError LookupError
    ZeroDivisionError ArithmeticError OverflowError RuntimeError NotImplementedError StopIteration""".split())
METHODS = set("""append clear copy count endswith extend find get index insert isalnum isalpha isdigit islower isspace
    isupper items join keys ljust lower lstrip partition pop remove replace reverse rfind rjust rpartition rsplit
    rstrip setdefault split splitlines startswith strip update upper values zfill bit_length""".split())
NODES = set("""Module Expr Import ImportFrom alias FunctionDef ClassDef arguments arg Return Assign AugAssign If While
    For Break Continue Pass Raise Try ExceptHandler Call keyword Attribute Subscript Slice Name Constant List Tuple
    Dict Set ListComp comprehension IfExp BinOp UnaryOp BoolOp Compare Lambda JoinedStr FormattedValue Load Store
    Add Sub Mult FloorDiv Mod Pow BitAnd BitOr BitXor LShift RShift Invert Not UAdd USub And Or
    Eq NotEq Lt LtE Gt GtE Is IsNot In NotIn""".split())
WORDS_LEFT_OUT = re.compile(r"\b(type|typing|typing_extensions|enum|Enum|IntEnum|StrEnum|Flag|IntFlag|Generic|Protocol"
                            r"|ABC|ABCMeta|namedtuple|NamedTuple|TypedDict|TYPE_CHECKING|abstractmethod)\b"
                            r"|dataclass|overload|contextmanager")
NAMES_LEFT_OUT = set("""register mro elements open input version_info with_traceback add_note format format_map
    args encode sort""".split())
PYTHONS_OWN = set(dir(builtins))
KINDS = (int, str, bool, None.__class__)


def sources():
    return {path: path.read_text("utf-8") for path in sorted(PACKAGE.glob("*.py"))}


def trees():
    return {path: ast.parse(text) for path, text in sources().items()}


def nodes():
    return [(path, node) for path, tree in trees().items() for node in ast.walk(tree)]


def bound_names(node):
    if isinstance(node, (ast.FunctionDef, ast.ClassDef)):
        return [node.name]
    if isinstance(node, ast.arg):
        return [node.arg]
    if isinstance(node, ast.Name) and isinstance(node.ctx, ast.Store):
        return [node.id]
    if isinstance(node, ast.Attribute) and isinstance(node.ctx, ast.Store):
        return [node.attr]
    if isinstance(node, ast.alias):
        return [node.asname or node.name]
    return []


class WrittenForm(unittest.TestCase):
    def test_only_plainly_named_python_files_lie_in_the_package(self):
        names = [path.name for path in PACKAGE.iterdir() if path.name != "__pycache__"]
        self.assertIn("__init__.py", names)
        self.assertIn("graphs.py", names)
        for name in names:
            self.assertRegex(name, r"\A([a-z][a-z0-9_]*|__init__)\.py\Z")

    def test_sizes_and_signs(self):
        for path, text in sources().items():
            lines = text.split("\n")
            self.assertLessEqual(len(lines) - 1, MOST_FILE_LINES, path)
            self.assertLessEqual(max(len(line) for line in lines), MOST_LINE_SIGNS, path)
            self.assertRegex(text, r"\A[ -~\n]*\Z", path)
            self.assertIsNone(WORDS_LEFT_OUT.search(text), path)

    def test_functions_are_small_and_plain(self):
        for path, node in nodes():
            if isinstance(node, ast.FunctionDef):
                self.assertLessEqual(node.end_lineno - node.lineno + 1, MOST_FUNCTION_LINES, node.name)
                self.assertEqual(node.decorator_list, [], node.name)
                extra = node.args.posonlyargs + node.args.kwonlyargs + [node.args.vararg, node.args.kwarg]
                self.assertEqual([each for each in extra if each is not None], [], node.name)

    def test_only_the_allowed_parts_of_the_language(self):
        for path, node in nodes():
            self.assertIn(node.__class__.__name__, NODES, (path, getattr(node, "lineno", None)))
            if isinstance(node, ast.Constant):
                self.assertIsInstance(node.value, KINDS, (path, node.lineno))
            if isinstance(node, ast.ListComp):
                self.assertEqual(len(node.generators), 1, (path, node.lineno))
            if isinstance(node, ast.Assign):
                self.assertEqual(len(node.targets), 1, (path, node.lineno))
            if isinstance(node, (ast.For, ast.While)):
                self.assertEqual(node.orelse, [], (path, node.lineno))
            if isinstance(node, ast.BinOp) and isinstance(node.op, ast.Pow):
                self.assertIsInstance(node.right, ast.Constant, (path, node.lineno))

    def test_imports_are_the_packages_own(self):
        for path, node in nodes():
            self.assertNotIsInstance(node, ast.Import, path)
            if isinstance(node, ast.ImportFrom):
                self.assertEqual(node.level, 0, path)
                self.assertRegex(node.module, r"\Agraphpoly\.[a-z]+\Z")
                self.assertEqual(node.col_offset, 0, path)

    def test_names_are_plain_and_bound_to_nothing_of_pythons_own(self):
        for path, node in nodes():
            for name in bound_names(node):
                self.assertRegex(name, r"\A([A-Za-z][A-Za-z0-9_]*|__init__)\Z", path)
                self.assertNotIn(name, PYTHONS_OWN | NAMES_LEFT_OUT, path)

    def test_of_pythons_own_names_only_the_allowed_ones(self):
        for path, tree in trees().items():
            own = {name for node in ast.walk(tree) for name in bound_names(node)}
            for node in ast.walk(tree):
                if isinstance(node, ast.Name) and isinstance(node.ctx, ast.Load):
                    self.assertIn(node.id, own | BUILT_INS, (path, node.lineno))

    def test_of_pythons_own_methods_only_the_allowed_ones(self):
        own = {name for path, node in nodes() for name in bound_names(node)}
        for path, node in nodes():
            if isinstance(node, ast.Attribute):
                self.assertIn(node.attr, own | METHODS, (path, node.lineno))


if __name__ == "__main__":
    unittest.main()
