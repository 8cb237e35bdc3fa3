"""Point 1 (no clock, chance or files) and the rules of the language that a walk over the code can see."""

import ast
import builtins
import pathlib
import re
import unittest

PACKAGE = pathlib.Path(__file__).resolve().parent.parent / "dipmaps"
BUILT_IN = """len range enumerate zip min max sum abs sorted reversed int str bool list tuple dict set frozenset
isinstance ord repr any all divmod Exception ValueError TypeError KeyError IndexError LookupError
ZeroDivisionError ArithmeticError OverflowError RuntimeError NotImplementedError AttributeError
StopIteration""".split()
NODES = """Module ImportFrom alias FunctionDef arguments arg ClassDef Assign AugAssign If While For Return Break
Continue Pass Raise Try ExceptHandler Expr Constant Name Load Store Attribute Subscript Slice Call keyword
List Tuple Dict Set ListComp comprehension Lambda IfExp BoolOp And Or UnaryOp Not USub Invert BinOp Add Sub Mult
FloorDiv Mod Pow BitAnd BitOr BitXor LShift RShift Compare Eq NotEq Lt LtE Gt GtE Is IsNot In NotIn
JoinedStr FormattedValue""".split()
WORDS = """type typing typing_extensions enum Enum IntEnum StrEnum Flag IntFlag Generic Protocol ABC ABCMeta
namedtuple NamedTuple TypedDict TYPE_CHECKING abstractmethod""".split()

METHODS = """append clear copy count endswith extend find get index insert isalnum isalpha isdigit islower isspace
isupper items join keys ljust lower lstrip partition pop remove replace reverse rfind rjust rpartition rsplit rstrip
setdefault split splitlines startswith strip update upper values zfill bit_length""".split()
TWO_UNDERSCORES = ["__init__", "__eq__", "__repr__", "__str__", "__len__"]
KINDS = (str, int, list, tuple, dict, set, frozenset, bytes)


def bound_names(tree):
    names = set()
    for node in ast.walk(tree):
        if isinstance(node, (ast.FunctionDef, ast.ClassDef)):
            names.add(node.name)
        elif isinstance(node, ast.arg):
            names.add(node.arg)
        elif isinstance(node, ast.alias):
            names.add(node.name)
        elif isinstance(node, ast.ExceptHandler) and node.name:
            names.add(node.name)
        elif isinstance(node, ast.Name) and isinstance(node.ctx, ast.Store):
            names.add(node.id)
    return names


def files():
    paths = [path for path in sorted(PACKAGE.iterdir()) if path.name != "__pycache__"]
    return [(path.name, path.read_text(encoding="utf-8")) for path in paths]


def trees():
    return [(name, ast.parse(text)) for name, text in files()]


def nodes(tree, kind):
    return [node for node in ast.walk(tree) if isinstance(node, kind)]


def local_names(tree):
    names = {node.arg for node in nodes(tree, ast.arg)}
    for function in nodes(tree, ast.FunctionDef):
        names |= {node.id for node in nodes(function, ast.Name) if isinstance(node.ctx, ast.Store)}
    return names


def own_methods():
    return {node.name for name, tree in trees() for one in nodes(tree, ast.ClassDef) for node in one.body
            if isinstance(node, ast.FunctionDef)}


def own_values():
    return {node.attr for name, tree in trees() for node in nodes(tree, ast.Attribute)
            if isinstance(node.ctx, ast.Store)}


def drawn(tree):
    return [(node.module.partition(".")[2] + ".py", alias.name) for node in nodes(tree, ast.ImportFrom)
            for alias in node.names]


class Language(unittest.TestCase):

    def test_files_are_small_and_plain(self):
        for name, text in files():
            with self.subTest(name):
                self.assertRegex(name, r"\A[a-z_][a-z0-9_]*\.py\Z")
                self.assertRegex(text, r"\A[ -~\n]*\Z")
                rows = text.split("\n")
                self.assertLessEqual(len(rows), 401)
                self.assertLessEqual(max(len(row) for row in rows), 120)

    def test_functions_are_short(self):
        for name, text in files():
            for node in ast.walk(ast.parse(text)):
                if isinstance(node, ast.FunctionDef):
                    with self.subTest(name, function=node.name):
                        self.assertLessEqual(node.end_lineno - node.lineno + 1, 40)

    def test_nothing_is_drawn_from_outside(self):
        for name, text in files():
            with self.subTest(name):
                tree = ast.parse(text)
                for node in ast.walk(tree):
                    if isinstance(node, ast.ImportFrom):
                        self.assertEqual(node.level, 0)
                        self.assertRegex(node.module, r"\Adipmaps\.[a-z]+\Z")
                used = {node.id for node in ast.walk(tree) if isinstance(node, ast.Name)}
                self.assertEqual(used - bound_names(tree) - set(BUILT_IN), set())

    def test_only_the_allowed_forms(self):
        for name, text in files():
            with self.subTest(name):
                for node in ast.walk(ast.parse(text)):
                    self.assertIn(type(node).__name__, NODES)
                for word in re.findall(r"\w+", text):
                    self.assertNotIn(word, WORDS)

    def test_names_are_plain(self):
        for name, tree in trees():
            with self.subTest(name):
                for bound in bound_names(tree) - set(TWO_UNDERSCORES):
                    self.assertRegex(bound, r"\A[A-Za-z][A-Za-z0-9_]*\Z")
                tops = {node.name for node in nodes(tree, ast.ClassDef)} | {each for module, each in drawn(tree)}
                self.assertEqual(local_names(tree) & (tops | set(dir(builtins))), set())

    def test_imports_name_the_file_that_defines_and_go_one_way(self):
        defined = {name: {node.name for node in tree.body if isinstance(node, (ast.FunctionDef, ast.ClassDef))}
                   for name, tree in trees()}
        draws = {name: {module for module, each in drawn(tree)} for name, tree in trees()}
        for name, tree in trees():
            for module, each in drawn(tree):
                self.assertIn(each, defined[module])
            reached = set(draws[name])
            for step in draws:
                reached |= {further for module in reached for further in draws[module]}
            self.assertNotIn(name, reached)

    def test_methods_and_values_are_apart(self):
        self.assertEqual(own_methods() & own_values(), set())
        for value in own_values() | own_methods() - set(TWO_UNDERSCORES):
            self.assertFalse(any(hasattr(kind, value) for kind in KINDS), value)

    def test_only_the_allowed_methods_are_called(self):
        for name, tree in trees():
            called = {node.func.attr for node in nodes(tree, ast.Call) if isinstance(node.func, ast.Attribute)}
            self.assertLessEqual(called, own_methods() | set(METHODS))
            used = {node.attr for node in nodes(tree, ast.Attribute)}
            self.assertLessEqual(used - called, own_values())

    def test_small_forms(self):
        for name, tree in trees():
            for node in nodes(tree, ast.Compare):
                for operator, right in zip(node.ops, node.comparators):
                    if isinstance(operator, (ast.Is, ast.IsNot)):
                        self.assertIsInstance(right, ast.Constant)
            for node in nodes(tree, ast.Assign):
                self.assertEqual(len(node.targets), 1)
            for node in nodes(tree, ast.FunctionDef):
                self.assertEqual((node.decorator_list, node.returns, node.args.vararg, node.args.kwarg),
                                 ([], None, None, None))
            for node in nodes(tree, ast.ListComp):
                self.assertEqual(len(node.generators), 1)
                self.assertLessEqual(len(node.generators[0].ifs), 1)
            for node in nodes(tree, (ast.For, ast.While)):
                self.assertEqual(node.orelse, [])
            for node in nodes(tree, ast.Try):
                self.assertEqual(node.finalbody, [])


if __name__ == "__main__":
    unittest.main()
