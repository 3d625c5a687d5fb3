"""The package's files keep to the part of Python that LANGUAGE.md tells, as far as a walk over them can see."""

import ast
import builtins
import inspect
import pathlib
import re
import unittest

from fewestfolds import packets

PACKAGE = pathlib.Path(packets.__file__).parent
FILES = sorted(PACKAGE.glob("*.py"))

NODES = """Module FunctionDef arguments arg Return Assign AugAssign For While If Expr Pass Break Continue Raise
    BoolOp And Or BinOp Add Sub Mult FloorDiv Mod UnaryOp USub Not IfExp Dict List Tuple ListComp comprehension
    Compare Eq NotEq Lt LtE Gt GtE Is IsNot In NotIn Call Constant Attribute Subscript Slice Name Load Store
    Lambda keyword ImportFrom alias""".split()

PYTHONS = """len range enumerate zip min max sum abs sorted reversed int str bool list tuple dict set frozenset
    isinstance ord repr any all divmod""".split()

METHODS = """append clear copy count endswith extend find get index insert items join keys pop remove replace
    reverse setdefault split update values""".split()

WORDS = """type typing typing_extensions enum Enum IntEnum StrEnum Flag IntFlag Generic Protocol ABC ABCMeta
    namedtuple NamedTuple TypedDict TYPE_CHECKING abstractmethod register mro elements open input""".split()


class Language(unittest.TestCase):
    def walk(self):
        for file in FILES:
            for node in ast.walk(ast.parse(file.read_text())):
                yield f"{file.name}:{getattr(node, 'lineno', 0)}", node

    def test_files(self):
        beside = [path.name for path in PACKAGE.iterdir() if path.name != "__pycache__"]
        self.assertEqual(sorted(beside), [file.name for file in FILES])
        for file in FILES:
            text = file.read_text()
            self.assertRegex(text, r"\A[ -~\n]*\Z")
            self.assertLessEqual(len(text.splitlines()), 400)
            self.assertLessEqual(max(len(line) for line in text.splitlines()), 120)
            self.assertEqual(set(re.findall(r"\w+", text)) & set(WORDS), set())

    def test_statements_and_expressions(self):
        for where, node in self.walk():
            self.assertIn(type(node).__name__, NODES, where)
            if isinstance(node, ast.Constant):
                self.assertIn(type(node.value), (int, str, bool, type(None)), where)
            if isinstance(node, ast.Assign):
                self.assertEqual(len(node.targets), 1, where)
            if isinstance(node, (ast.For, ast.While)):
                self.assertEqual(node.orelse, [], where)
            if isinstance(node, ast.ListComp):
                self.assertEqual(len(node.generators), 1, where)
                self.assertLessEqual(len(node.generators[0].ifs), 1, where)

    def test_functions(self):
        for where, node in self.walk():
            if isinstance(node, ast.FunctionDef):
                self.assertLessEqual(node.end_lineno - node.lineno + 1, 40, where)
                self.assertEqual(node.decorator_list, [], where)
                plain = (node.args.vararg, node.args.kwarg, node.args.kwonlyargs, node.args.posonlyargs)
                self.assertEqual(plain, (None, None, [], []), where)

    def test_names(self):
        for where, node in self.walk():
            if isinstance(node, ast.Name) and hasattr(builtins, node.id):
                self.assertIn(node.id, PYTHONS, where)
                self.assertIsInstance(node.ctx, ast.Load, where)
            for name in [getattr(node, at, None) for at in ("id", "arg", "name")]:
                if isinstance(name, str):
                    self.assertRegex(name, r"\A[A-Za-z][A-Za-z0-9_]*\Z", where)
            if isinstance(node, (ast.arg, ast.FunctionDef)):
                self.assertFalse(hasattr(builtins, getattr(node, "arg", None) or node.name), where)
            if isinstance(node, ast.Attribute):
                self.assertIn(node.attr, METHODS, where)

    def test_imports(self):
        for where, node in self.walk():
            if isinstance(node, ast.ImportFrom):
                self.assertEqual((node.module or "").split(".")[0], "fewestfolds", where)


class Interface(unittest.TestCase):
    def test_names_and_arguments(self):
        self.assertEqual(list(inspect.signature(packets.moves).parameters), ["w", "h", "packet"])
        self.assertEqual(list(inspect.signature(packets.move).parameters), ["w", "h", "k", "packet"])
        self.assertEqual(list(inspect.signature(packets.way).parameters), ["w", "h", "n", "packet"])
        self.assertEqual(list(inspect.signature(packets.show).parameters), ["w", "h", "n", "row"])
        self.assertEqual(list(inspect.signature(packets.count).parameters), ["w", "h", "n"])
        self.assertEqual(list(inspect.signature(packets.kth).parameters), ["w", "h", "n", "k"])
        self.assertEqual(list(inspect.signature(packets.piles).parameters), ["w", "h", "n"])


if __name__ == "__main__":
    unittest.main()
