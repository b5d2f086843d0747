"""The form of the package's files: the chief rules of the small part of Python that it keeps to."""

import ast
import pathlib
import re
import unittest

ROOT = pathlib.Path(__file__).resolve().parent.parent
PACKAGE = ROOT / "stagefades"
FILES = sorted(path for path in PACKAGE.rglob("*") if "__pycache__" not in path.parts)

NODES = set("""
    Module FunctionDef ClassDef ImportFrom alias arguments arg Lambda keyword Return Assign AugAssign For While If
    Raise Try ExceptHandler Expr Pass Break Continue BoolOp And Or UnaryOp Not USub BinOp Add Sub Mult FloorDiv Mod
    Pow BitAnd BitOr BitXor LShift RShift Invert Compare Eq NotEq Lt LtE Gt GtE Is IsNot In NotIn IfExp Call Constant
    JoinedStr FormattedValue Attribute Subscript Slice Name Load Store List Tuple Dict ListComp comprehension
""".split())

OWN_NAMES = set("""
    len range enumerate zip min max sum abs sorted reversed int str bool list tuple dict set frozenset isinstance ord
    repr any all divmod
""".split())

METHODS = {"__init__", "__eq__", "__repr__", "__str__", "__len__"}

WORDS = re.compile(
    r"\b(type|typing|typing_extensions|enum|Enum|IntEnum|StrEnum|Flag|IntFlag|Generic|Protocol|ABC|ABCMeta|namedtuple"
    r"|NamedTuple|TypedDict|TYPE_CHECKING|abstractmethod)\b|dataclass|overload|contextmanager"
)


def trees():
    return [(path, ast.parse(path.read_text())) for path in FILES]


def walk():
    return [(path, node) for path, tree in trees() for node in ast.walk(tree)]


class FormTest(unittest.TestCase):
    def test_nothing_but_plain_files(self):
        self.assertIn(PACKAGE / "__init__.py", FILES)
        for path in FILES:
            self.assertRegex(path.name, r"^(__init__|[a-z][a-z0-9_]*)\.py$")

    def test_signs_and_sizes(self):
        for path in FILES:
            lines = path.read_text().split("\n")
            self.assertLess(len(lines), 400, path)
            for line in lines:
                self.assertRegex(line, r"^[ -~]{0,120}$", path)

    def test_words(self):
        for path in FILES:
            self.assertIsNone(WORDS.search(path.read_text()), path)

    def test_parts_of_the_language(self):
        for path, node in walk():
            self.assertIn(node.__class__.__name__, NODES, (path, getattr(node, "lineno", 0)))
            if isinstance(node, ast.Constant):
                self.assertIn(node.value.__class__, (int, str, bool, None.__class__), path)

    def test_imports_are_the_packages_own(self):
        for path, node in walk():
            if isinstance(node, ast.ImportFrom):
                self.assertRegex(node.module, r"^stagefades\.[a-z]+$", path)
                self.assertEqual((node.level, [each.asname for each in node.names]), (0, [None] * len(node.names)))

    def test_functions(self):
        for path, node in walk():
            if isinstance(node, ast.FunctionDef):
                where = (path, node.name)
                self.assertLessEqual(node.end_lineno - node.lineno + 1, 40, where)
                self.assertEqual(node.decorator_list, [], where)
                self.assertIsNone(node.args.vararg or node.args.kwarg, where)
                self.assertTrue(node.name in METHODS or not node.name.startswith("_"), where)
                self.assertTrue(node.name == "__init__" or ast.get_docstring(node), where)

    def test_names(self):
        for path, tree in trees():
            nodes = list(ast.walk(tree))
            named = (ast.FunctionDef, ast.ClassDef, ast.alias)
            bound = {node.id for node in nodes if isinstance(node, ast.Name) and isinstance(node.ctx, ast.Store)}
            bound |= {node.arg for node in nodes if isinstance(node, ast.arg)}
            bound |= {node.name for node in nodes if isinstance(node, named)}
            read = {node.id for node in nodes if isinstance(node, ast.Name)}
            self.assertLessEqual(read - bound, OWN_NAMES, path)
            self.assertEqual(bound & set(dir(__import__("builtins"))) - METHODS, set(), path)
            self.assertEqual([name for name in bound - METHODS if name.startswith("_")], [], path)

    def test_no_name_is_a_method_and_a_value(self):
        classes = [node for path, node in walk() if isinstance(node, ast.ClassDef)]
        methods = {node.name for each in classes for node in each.body if isinstance(node, ast.FunctionDef)}
        values = {
            node.attr for path, node in walk() if isinstance(node, ast.Attribute) and isinstance(node.ctx, ast.Store)
        }
        self.assertEqual(methods & values, set())


if __name__ == "__main__":
    unittest.main()
