"""Point 1 (no clock, chance or files) and the rules of the language that a walk over the code can see."""

import ast
import pathlib
import re
import unittest

PACKAGE = pathlib.Path(__file__).resolve().parent.parent / "dipmaps"
BUILT_IN = """len range enumerate zip min max sum abs sorted reversed int str bool list tuple dict set frozenset
isinstance ord repr any all divmod Exception ValueError TypeError KeyError IndexError LookupError
ZeroDivisionError ArithmeticError OverflowError RuntimeError NotImplementedError AttributeError
StopIteration""".split()
NODES = """Module ImportFrom alias FunctionDef arguments arg ClassDef Assign AugAssign If While For Return Break
Continue Pass Raise Try ExceptHandler Expr Constant Name Load Store Attribute Subscript Slice Call keyword
List Tuple Dict Set ListComp comprehension Lambda IfExp BoolOp And Or UnaryOp Not USub Invert BinOp Add Sub Mult
FloorDiv Mod Pow BitAnd BitOr BitXor LShift RShift Compare Eq NotEq Lt LtE Gt GtE Is IsNot In NotIn
JoinedStr FormattedValue""".split()
WORDS = """type typing typing_extensions enum Enum IntEnum StrEnum Flag IntFlag Generic Protocol ABC ABCMeta
namedtuple NamedTuple TypedDict TYPE_CHECKING abstractmethod""".split()


def bound_names(tree):
    names = set()
    for node in ast.walk(tree):
        if isinstance(node, (ast.FunctionDef, ast.ClassDef)):
            names.add(node.name)
        elif isinstance(node, ast.arg):
            names.add(node.arg)
        elif isinstance(node, ast.alias):
            names.add(node.name)
        elif isinstance(node, ast.ExceptHandler) and node.name:
            names.add(node.name)
        elif isinstance(node, ast.Name) and isinstance(node.ctx, ast.Store):
            names.add(node.id)
    return names


def files():
    paths = [path for path in sorted(PACKAGE.iterdir()) if path.name != "__pycache__"]
    return [(path.name, path.read_text(encoding="utf-8")) for path in paths]


class Language(unittest.TestCase):

    def test_files_are_small_and_plain(self):
        for name, text in files():
            with self.subTest(name):
                self.assertRegex(name, r"\A[a-z_][a-z0-9_]*\.py\Z")
                self.assertRegex(text, r"\A[ -~\n]*\Z")
                rows = text.split("\n")
                self.assertLessEqual(len(rows), 401)
                self.assertLessEqual(max(len(row) for row in rows), 120)

    def test_functions_are_short(self):
        for name, text in files():
            for node in ast.walk(ast.parse(text)):
                if isinstance(node, ast.FunctionDef):
                    with self.subTest(name, function=node.name):
                        self.assertLessEqual(node.end_lineno - node.lineno + 1, 40)

    def test_nothing_is_drawn_from_outside(self):
        for name, text in files():
            with self.subTest(name):
                tree = ast.parse(text)
                for node in ast.walk(tree):
                    if isinstance(node, ast.ImportFrom):
                        self.assertEqual(node.level, 0)
                        self.assertRegex(node.module, r"\Adipmaps\.[a-z]+\Z")
                used = {node.id for node in ast.walk(tree) if isinstance(node, ast.Name)}
                self.assertEqual(used - bound_names(tree) - set(BUILT_IN), set())

    def test_only_the_allowed_forms(self):
        for name, text in files():
            with self.subTest(name):
                for node in ast.walk(ast.parse(text)):
                    self.assertIn(type(node).__name__, NODES)
                for word in re.findall(r"\w+", text):
                    self.assertNotIn(word, WORDS)


if __name__ == "__main__":
    unittest.main()
