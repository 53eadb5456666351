"""The package's files keep to the small part of Python that the project is written in, as far as a scan can see."""

import ast
import builtins
import re
import unittest
from pathlib import Path

PACKAGE = Path(__file__).resolve().parent.parent / "lampturns"
FILES = sorted(PACKAGE.rglob("*.py"))

NODES = (
    "Module FunctionDef arguments arg Lambda ClassDef Return Assign AugAssign For While If Raise Try ExceptHandler "
    "ImportFrom alias Expr Pass Break Continue BoolOp And Or BinOp Add Sub Mult FloorDiv Mod Pow LShift RShift BitOr "
    "BitXor BitAnd UnaryOp Not USub Invert IfExp Dict List Tuple Set ListComp comprehension Compare Eq NotEq Lt LtE "
    "Gt GtE Is IsNot In NotIn Call keyword Constant Attribute Subscript Slice Name Load Store JoinedStr FormattedValue"
).split()

OWN_NAMES = (
    "len range enumerate zip min max sum abs sorted reversed int str bool list tuple dict set frozenset isinstance ord "
    "repr any all divmod Exception ValueError TypeError KeyError IndexError LookupError ZeroDivisionError "
    "ArithmeticError OverflowError RuntimeError NotImplementedError AttributeError StopIteration"
).split()

WORDS_OUT = (
    "type typing typing_extensions enum Enum IntEnum StrEnum Flag IntFlag Generic Protocol ABC ABCMeta namedtuple "
    "NamedTuple TypedDict TYPE_CHECKING abstractmethod"
).split()

OWN_METHODS = (
    "append clear copy count endswith extend find get index insert isalnum isalpha isdigit islower isspace isupper "
    "items join keys ljust lower lstrip partition pop remove replace reverse rfind rjust rpartition rsplit rstrip "
    "setdefault split splitlines startswith strip update upper values zfill bit_length"
).split()

NAMES_OUT = "register mro elements open input version_info with_traceback add_note format format_map".split()


class TestLanguage(unittest.TestCase):
    def each(self):
        for path in FILES:
            source = path.read_text(encoding="utf-8")
            yield source, ast.parse(source, str(path))

    def test_files(self):
        self.assertTrue((PACKAGE / "__init__.py").is_file())
        for path in PACKAGE.rglob("*"):
            if "__pycache__" not in path.parts:
                self.assertRegex(path.name, r"^[a-z0-9_]+\.py$")

    def test_sizes_and_signs(self):
        for source, tree in self.each():
            self.assertRegex(source, r"\A[ -~\n]*\Z")
            self.assertLessEqual(len(source.splitlines()), 400)
            self.assertLessEqual(max(len(row) for row in source.splitlines()), 120)
            for node in ast.walk(tree):
                if isinstance(node, ast.FunctionDef):
                    self.assertLessEqual(node.end_lineno - node.lineno + 1, 40, node.name)

    def test_words(self):
        for source, tree in self.each():
            words = re.findall(r"\w+", source)
            self.assertEqual([word for word in words if word in WORDS_OUT], [])
            self.assertNotRegex(source, "dataclass|overload|contextmanager")

    def test_statements_and_expressions(self):
        for source, tree in self.each():
            found = {node.__class__.__name__ for node in ast.walk(tree)}
            self.assertEqual(sorted(found - set(NODES)), [])
            for node in ast.walk(tree):
                self.assertFalse(getattr(node, "decorator_list", []))
                self.assertFalse(isinstance(node, (ast.For, ast.While)) and node.orelse)
                if isinstance(node, ast.Assign):
                    self.assertEqual(len(node.targets), 1)
                if isinstance(node, ast.Constant):
                    self.assertIn(node.value.__class__.__name__, ("int", "str", "bool", "NoneType"))

    def test_imports(self):
        for source, tree in self.each():
            for node in ast.walk(tree):
                if isinstance(node, ast.ImportFrom):
                    self.assertIn(node, tree.body)
                    self.assertEqual(node.level, 0)
                    self.assertRegex(node.module, r"^lampturns\.[a-z_]+$")
                    self.assertNotIn("*", [name.name for name in node.names])

    def test_names(self):
        for source, tree in self.each():
            for node in ast.walk(tree):
                if isinstance(node, ast.Name):
                    self.assertFalse(node.id.startswith("_"), node.id)
                    allowed = node.id in OWN_NAMES and isinstance(node.ctx, ast.Load)
                    self.assertTrue(allowed or not hasattr(builtins, node.id), node.id)
                    self.assertNotIn(node.id, NAMES_OUT)
                if isinstance(node, ast.arg):
                    self.assertFalse(hasattr(builtins, node.arg), node.arg)
                if isinstance(node, ast.Attribute):
                    self.assertNotIn(node.attr, NAMES_OUT)
                    self.assertFalse(node.attr.startswith("_"), node.attr)

    def test_methods_and_values(self):
        methods, values, called = set(), set(), set()
        for source, tree in self.each():
            for node in ast.walk(tree):
                if isinstance(node, ast.ClassDef):
                    methods |= {inner.name for inner in node.body if isinstance(inner, ast.FunctionDef)}
                if isinstance(node, ast.Attribute) and isinstance(node.ctx, ast.Store):
                    values.add(node.attr)
                if isinstance(node, ast.Call) and isinstance(node.func, ast.Attribute):
                    called.add(node.func.attr)
        python_names = {name for value in ("", 0, [], {}, (), set(), b"") for name in value.__dir__()}
        self.assertEqual(methods & values, set())
        self.assertEqual(called - methods - set(OWN_METHODS), set())
        self.assertEqual((methods | values) & python_names - {"__init__"}, set())

    def test_nothing_but_plain_values_at_the_top(self):
        for source, tree in self.each():
            for node in tree.body:
                self.assertIsInstance(node, (ast.Expr, ast.ImportFrom, ast.FunctionDef, ast.ClassDef, ast.Assign))
                if isinstance(node, ast.Assign):
                    ast.literal_eval(node.value)

    def test_no_two_files_draw_from_one_another(self):
        drawn = {}
        for path, (source, tree) in zip(FILES, self.each()):
            drawn[path.stem] = {node.module.split(".")[1] for node in tree.body if isinstance(node, ast.ImportFrom)}
        while drawn:
            free = [name for name in drawn if not drawn[name] & set(drawn)]
            self.assertTrue(free, drawn)
            for name in free:
                drawn.pop(name)


if __name__ == "__main__":
    unittest.main()
