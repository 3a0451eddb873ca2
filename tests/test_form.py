"""The form of the package's files: those rules of LANGUAGE.md that a walk over them can check."""

import ast
import builtins
import pathlib
import re
import unittest

import wishgiving

FOLDER = pathlib.Path(wishgiving.__file__).parent
FILES = sorted(path for path in FOLDER.iterdir() if path.name != "__pycache__")

# L6 and L7
NODES = set("""
Module FunctionDef ClassDef Return Assign AugAssign For While If Raise Try Pass Break Continue Expr
ImportFrom alias arguments arg keyword ExceptHandler BoolOp And Or BinOp Add Sub Mult FloorDiv Mod
Pow LShift RShift BitOr BitXor BitAnd UnaryOp Not USub UAdd Invert Lambda IfExp Dict Set ListComp
comprehension Compare Eq NotEq Lt LtE Gt GtE Is IsNot In NotIn Call FormattedValue JoinedStr Constant
Attribute Subscript Slice Name List Tuple Load Store
""".split())

# L8
BUILTINS = set("""
len range enumerate zip min max sum abs sorted reversed int str bool list tuple dict set frozenset
isinstance ord repr any all divmod Exception ValueError TypeError KeyError IndexError LookupError
ZeroDivisionError ArithmeticError OverflowError RuntimeError NotImplementedError AttributeError
StopIteration
""".split())

# L25
METHODS = set("""
append clear copy count endswith extend find get index insert isalnum isalpha isdigit islower isspace
isupper items join keys ljust lower lstrip partition pop remove replace reverse rfind rjust
rpartition rsplit rstrip setdefault split splitlines startswith strip update upper values zfill
bit_length
""".split())

# L17
WORDS = re.compile(
    r"\b(type|typing|typing_extensions|enum|Enum|IntEnum|StrEnum|Flag|IntFlag|Generic|Protocol|ABC"
    r"|ABCMeta|namedtuple|NamedTuple|TypedDict|TYPE_CHECKING|abstractmethod)\b"
    r"|dataclass|overload|contextmanager"
)


class Form(unittest.TestCase):
    def each_tree(self):
        return [ast.parse(path.read_text("ascii"), path.name) for path in FILES]

    def each_node(self):
        return [node for tree in self.each_tree() for node in ast.walk(tree)]

    def test_files(self):
        self.assertIn(FOLDER / "giving.py", FILES)
        self.assertIn(FOLDER / "__init__.py", FILES)
        for path in FILES:
            self.assertRegex(path.name, r"^(__init__|[a-z][a-z0-9_]*)\.py$")

    def test_text(self):
        for path in FILES:
            with self.subTest(file=path.name):
                text = path.read_text("ascii")
                self.assertRegex(text, r"\A[ -~\n]*\n\Z")
                self.assertIsNone(WORDS.search(text))
                self.assertLessEqual(len(text.splitlines()), 399)
                self.assertLessEqual(max(len(line) for line in text.splitlines()), 120)

    def test_top(self):
        for tree in self.each_tree():
            self.assertTrue(ast.get_docstring(tree))
            for node in tree.body[1:]:
                self.assertIsInstance(node, (ast.ImportFrom, ast.FunctionDef, ast.ClassDef, ast.Assign))

    def test_imports(self):
        for node in self.each_node():
            if isinstance(node, ast.ImportFrom):
                self.assertEqual(node.level, 0)
                self.assertRegex(node.module, r"^wishgiving\.[a-z]")
                self.assertTrue(all(name.name != "*" and not name.asname for name in node.names))

    def test_nodes(self):
        for node in self.each_node():
            self.assertIn(node.__class__.__name__, NODES)
            if isinstance(node, ast.Constant):
                self.assertNotIsInstance(node.value, (float, complex, bytes))
            if isinstance(node, (ast.For, ast.While)):
                self.assertFalse(node.orelse)
            if isinstance(node, ast.Assign):
                self.assertEqual(len(node.targets), 1)

    def test_functions(self):
        for node in self.each_node():
            if isinstance(node, ast.FunctionDef):
                self.assertLessEqual(node.end_lineno - node.lineno + 1, 40, node.name)
                self.assertFalse(node.decorator_list)
                rest = (node.args.vararg, node.args.kwarg, node.args.kwonlyargs, node.args.posonlyargs)
                self.assertEqual(rest, (None, None, [], []))

    def test_names(self):
        own = set()
        for node in self.each_node():
            if isinstance(node, (ast.FunctionDef, ast.ClassDef)):
                own.add(node.name)
            elif isinstance(node, ast.arg):
                own.add(node.arg)
            elif isinstance(node, (ast.Name, ast.Attribute)) and isinstance(node.ctx, ast.Store):
                own.add(node.id if isinstance(node, ast.Name) else node.attr)
        for name in own - {"__init__"}:
            self.assertRegex(name, r"^[A-Za-z][A-Za-z0-9_]*$")
            self.assertFalse(hasattr(builtins, name), name)
        for node in self.each_node():
            if isinstance(node, ast.Name):
                self.assertIn(node.id, own | BUILTINS)
            if isinstance(node, ast.Attribute):
                self.assertIn(node.attr, own | METHODS)


if __name__ == "__main__":
    unittest.main()
