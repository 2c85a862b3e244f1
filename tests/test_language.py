"""The package keeps to its small part of Python: those rules that a look at the text or the tree can see."""

import ast
import builtins
import re
import unittest
from pathlib import Path

PACKAGE = Path(__file__).resolve().parent.parent / "gaugeclock"
FILES = sorted(path for path in PACKAGE.rglob("*") if "__pycache__" not in path.parts)

NODES = set("""
Module FunctionDef ClassDef arguments arg Return Assign AugAssign For While If Raise Try ExceptHandler ImportFrom alias
Expr Break Continue Pass BoolOp And Or BinOp Add Sub Mult FloorDiv Mod Pow BitAnd BitOr BitXor LShift RShift UnaryOp
Not USub Invert IfExp Dict List Tuple ListComp comprehension Compare Eq NotEq Lt LtE Gt GtE Is IsNot In NotIn Call
keyword JoinedStr FormattedValue Constant Attribute Subscript Slice Name Load Store Lambda
""".split())

ALLOWED_BUILTINS = set("""
len range enumerate zip min max sum abs sorted reversed int str bool list tuple dict set frozenset isinstance ord repr
any all divmod Exception ValueError TypeError KeyError IndexError LookupError ZeroDivisionError ArithmeticError
OverflowError RuntimeError NotImplementedError AttributeError StopIteration
""".split())

METHODS = set("""
append clear copy count endswith extend find get index insert isalnum isalpha isdigit islower isspace isupper items
join keys ljust lower lstrip partition pop remove replace reverse rfind rjust rpartition rsplit rstrip setdefault split
splitlines startswith strip update upper values zfill bit_length
""".split())

WORDS = re.compile(r"\b(type|typing|typing_extensions|enum|Enum|IntEnum|StrEnum|Flag|IntFlag|Generic|Protocol|ABC|"
                   r"ABCMeta|namedtuple|NamedTuple|TypedDict|TYPE_CHECKING|abstractmethod)\b|"
                   r"dataclass|overload|contextmanager")
NAMES_OUT = set("register mro elements open input version_info with_traceback add_note format format_map".split())
PYTHON_VALUES = (int, str, list, dict, set, bytes, tuple)


def walked():
    for path in FILES:
        for node in ast.walk(ast.parse(path.read_text())):
            yield path.name, node


def own_names():
    """Names of the package's own attributes: its methods and what is stored through self."""
    methods, stored = set(), set()
    for name, node in walked():
        if isinstance(node, ast.ClassDef):
            methods.update(part.name for part in node.body if isinstance(part, ast.FunctionDef))
        if isinstance(node, ast.Attribute) and isinstance(node.ctx, ast.Store):
            stored.add(node.attr)
    return methods, stored


class Texts(unittest.TestCase):
    def test_files(self):
        self.assertIn(PACKAGE / "__init__.py", FILES)
        for path in FILES:
            self.assertTrue(path.is_file() and re.fullmatch(r"[a-z0-9_]+\.py", path.name), path)

    def test_signs_and_sizes(self):
        for path in FILES:
            text = path.read_bytes().decode("ascii")
            self.assertEqual(set(re.findall(r"[^ -~\n]", text)), set(), path)
            lines = text.split("\n")
            self.assertLessEqual(len(lines) - 1, 400, path)
            self.assertLessEqual(max(len(line) for line in lines), 120, path)

    def test_words(self):
        for path in FILES:
            self.assertIsNone(WORDS.search(path.read_text()), path)


class Trees(unittest.TestCase):
    def test_nodes(self):
        for name, node in walked():
            self.assertIn(node.__class__.__name__, NODES, (name, getattr(node, "lineno", None)))

    def test_constants(self):
        for name, node in walked():
            if isinstance(node, ast.Constant):
                self.assertTrue(node.value is None or isinstance(node.value, (bool, int, str)), (name, node.lineno))

    def test_functions(self):
        for name, node in walked():
            if isinstance(node, ast.FunctionDef):
                parts = node.args
                self.assertLessEqual(node.end_lineno - node.lineno + 1, 40, node.name)
                self.assertFalse(parts.vararg or parts.kwarg or parts.kwonlyargs or node.decorator_list, node.name)

    def test_the_top(self):
        for path in FILES:
            bound = []
            for node in ast.parse(path.read_text()).body:
                if isinstance(node, (ast.FunctionDef, ast.ClassDef)):
                    bound.append(node.name)
                elif isinstance(node, ast.Assign):
                    bound.append(node.targets[0].id)
                    ast.literal_eval(node.value)
                else:
                    self.assertIsInstance(node, (ast.Expr, ast.ImportFrom), path)
            self.assertEqual(len(bound), len(set(bound)), path)

    def test_assignments_and_is(self):
        for name, node in walked():
            if isinstance(node, ast.Assign):
                self.assertEqual(len(node.targets), 1, (name, node.lineno))
                self.assertNotIsInstance(node.targets[0], (ast.Tuple, ast.List), (name, node.lineno))
            if isinstance(node, (ast.For, ast.While)):
                self.assertEqual(node.orelse, [], (name, node.lineno))
            if isinstance(node, ast.Compare) and isinstance(node.ops[0], (ast.Is, ast.IsNot)):
                self.assertIsInstance(node.comparators[0], ast.Constant, (name, node.lineno))

    def test_imports(self):
        # The document says of the package that it imports nothing.
        for name, node in walked():
            self.assertNotIsInstance(node, (ast.Import, ast.ImportFrom), name)


class Names(unittest.TestCase):
    def test_plain(self):
        for name, node in walked():
            for field in ("id", "arg", "attr", "name"):
                word = getattr(node, field, None)
                if isinstance(word, str) and word != "__init__":
                    self.assertRegex(word, r"\A[A-Za-z][A-Za-z0-9_]*\Z", name)
                    self.assertNotIn(word, NAMES_OUT, name)

    def test_names_of_pythons_own(self):
        own = set(dir(builtins))
        for name, node in walked():
            if isinstance(node, ast.Name) and node.id in own:
                self.assertIn(node.id, ALLOWED_BUILTINS, (name, node.lineno))
                self.assertIsInstance(node.ctx, ast.Load, (name, node.lineno))
            if isinstance(node, ast.arg):
                self.assertNotIn(node.arg, own, (name, node.lineno))

    def test_attributes(self):
        methods, stored = own_names()
        taken = {word for kind in PYTHON_VALUES for word in dir(kind)}
        self.assertEqual(methods & stored, set())
        self.assertEqual((methods | stored) & taken - {"__init__"}, set())
        for name, node in walked():
            if isinstance(node, ast.Attribute):
                self.assertIn(node.attr, METHODS | methods | stored, (name, node.lineno))


if __name__ == "__main__":
    unittest.main()
