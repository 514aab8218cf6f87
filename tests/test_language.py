"""The package keeps to the plain part of Python: what of that can be seen from the code alone."""

import ast
import builtins
import pathlib
import re
import unittest

PACKAGE = pathlib.Path(__file__).resolve().parent.parent / "calendarclocks"

ALLOWED_NODES = """
    Module Expr Constant Import ImportFrom alias FunctionDef arguments arg ClassDef Return Assign AugAssign If While
    For Break Continue Pass Raise Try ExceptHandler Name Load Store Attribute Subscript Slice Call keyword Tuple List
    Dict ListComp comprehension BinOp UnaryOp BoolOp Compare IfExp Lambda JoinedStr FormattedValue
    Add Sub Mult FloorDiv Mod Pow LShift RShift BitOr BitXor BitAnd USub UAdd Invert Not And Or
    Eq NotEq Lt LtE Gt GtE Is IsNot In NotIn""".split()

ALLOWED_BUILTINS = """
    len range enumerate zip min max sum abs sorted reversed int str bool list tuple dict set frozenset isinstance ord
    repr any all divmod Exception ValueError TypeError KeyError IndexError LookupError ZeroDivisionError
    ArithmeticError OverflowError RuntimeError NotImplementedError AttributeError StopIteration""".split()

WORDS = """
    type typing typing_extensions enum Enum IntEnum StrEnum Flag IntFlag Generic Protocol ABC ABCMeta namedtuple
    NamedTuple TypedDict TYPE_CHECKING abstractmethod""".split()


def sources():
    return [(path, path.read_text(encoding="utf-8")) for path in sorted(PACKAGE.glob("*.py"))]


def nodes():
    return [(path, node) for path, text in sources() for node in ast.walk(ast.parse(text))]


class TestLanguage(unittest.TestCase):
    def test_files(self):
        found = [path for path in PACKAGE.iterdir() if path.name != "__pycache__"]
        self.assertTrue(all(re.fullmatch(r"[a-z0-9_]+\.py", path.name) for path in found), found)
        self.assertIn(PACKAGE / "__init__.py", found)

    def test_signs_and_sizes(self):
        for path, text in sources():
            self.assertIsNone(re.search(r"[^ -~\n]", text), path)
            self.assertLess(len(text.split("\n")), 400, path)
            self.assertLessEqual(max(len(line) for line in text.split("\n")), 120, path)
        for path, node in nodes():
            if isinstance(node, ast.FunctionDef):
                self.assertLessEqual(node.end_lineno - node.lineno + 1, 40, (path, node.name))
                self.assertEqual(node.decorator_list, [])

    def test_words(self):
        for path, text in sources():
            self.assertEqual([word for word in re.findall(r"\w+", text) if word in WORDS], [], path)

    def test_nodes(self):
        for path, node in nodes():
            where = (path, getattr(node, "lineno", 0))
            self.assertIn(type(node).__name__, ALLOWED_NODES, where)
            if isinstance(node, ast.Assign):
                self.assertEqual(len(node.targets), 1, where)
            if isinstance(node, (ast.For, ast.While)):
                self.assertEqual(node.orelse, [], where)
            if isinstance(node, ast.Constant):
                self.assertTrue(node.value is None or type(node.value) in (int, str, bool), where)

    def test_imports(self):
        for path, node in nodes():
            self.assertNotIsInstance(node, ast.Import, path)
            if isinstance(node, ast.ImportFrom):
                self.assertTrue(node.level == 0 and node.module.startswith("calendarclocks."), path)

    def test_names(self):
        others = [name for name in vars(builtins) if name not in ALLOWED_BUILTINS]
        for path, node in nodes():
            if isinstance(node, ast.Name):
                self.assertNotIn(node.id, others, path)
                self.assertTrue(isinstance(node.ctx, ast.Load) or node.id not in vars(builtins), (path, node.id))
            if isinstance(node, ast.arg):
                self.assertNotIn(node.arg, vars(builtins), path)
            if isinstance(node, (ast.Name, ast.Attribute, ast.arg)):
                name = getattr(node, "id", "") or getattr(node, "attr", "") or getattr(node, "arg", "")
                self.assertFalse(name.startswith("_"), (path, name))
