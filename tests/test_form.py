"""The form of the package's own files, as far as a short look at them can tell."""

import ast
import builtins
import pathlib
import re
import unittest

FOLDER = pathlib.Path(__file__).resolve().parent.parent / "forgetkeeper"

NODES = set("""Module FunctionDef ClassDef arguments arg Return Assign AugAssign If While For Break Continue Pass Raise
Try ExceptHandler Expr Call Name Load Store Attribute Subscript Slice Constant List Tuple Dict ListComp comprehension
BinOp UnaryOp BoolOp Compare IfExp Add Sub Mult FloorDiv Mod Pow LShift RShift BitAnd BitOr BitXor Invert And Or Not
USub Eq NotEq Lt LtE Gt GtE In NotIn Is IsNot Lambda JoinedStr FormattedValue ImportFrom alias keyword""".split())

BUILT_IN = set("""len range enumerate zip min max sum abs sorted reversed int str bool list tuple dict set frozenset
isinstance ord repr any all divmod Exception ValueError TypeError KeyError IndexError LookupError ZeroDivisionError
ArithmeticError OverflowError RuntimeError NotImplementedError StopIteration""".split())

BARRED = set("""type typing typing_extensions enum Enum IntEnum StrEnum Flag IntFlag Generic Protocol ABC ABCMeta
namedtuple NamedTuple TypedDict TYPE_CHECKING abstractmethod register mro elements open input eval exec getattr
setattr globals locals vars id super chr""".split())


def files():
    return sorted(path for path in FOLDER.rglob("*") if "__pycache__" not in path.parts)


def nodes():
    for path in files():
        for node in ast.walk(ast.parse(path.read_text())):
            yield path.name, node


class FormTest(unittest.TestCase):

    def test_files(self):
        names = [path.name for path in files()]
        self.assertIn("__init__.py", names)
        self.assertIn("keeper.py", names)
        for name in names:
            self.assertRegex(name, r"^([a-z][a-z0-9_]*|__init__)\.py$")

    def test_signs_and_sizes(self):
        for path in files():
            text = path.read_bytes().decode("ascii")
            self.assertRegex(text, r"\A[ -~\n]*\Z")
            rows = text.split("\n")
            self.assertLessEqual(len(rows), 400, path.name)
            self.assertLessEqual(max(len(row) for row in rows), 120, path.name)
            self.assertEqual(set(re.findall(r"\w+", text)) & BARRED, set(), path.name)

    def test_nodes(self):
        for name, node in nodes():
            self.assertIn(node.__class__.__name__, NODES, (name, getattr(node, "lineno", 0)))

    def test_functions(self):
        for name, node in nodes():
            if isinstance(node, ast.FunctionDef):
                self.assertLessEqual(node.end_lineno - node.lineno + 1, 40, (name, node.name))
                self.assertEqual(node.decorator_list, [])
                self.assertIsNone(node.args.vararg or node.args.kwarg or node.returns)

    def test_imports_are_the_package_s_own(self):
        for name, node in nodes():
            if isinstance(node, ast.ImportFrom):
                self.assertEqual(node.level, 0, name)
                self.assertTrue(node.module.startswith("forgetkeeper."), (name, node.module))

    def test_values(self):
        for name, node in nodes():
            if isinstance(node, ast.Constant):
                self.assertIn(node.value.__class__, (int, str, bool, None.__class__), (name, node.lineno))

    def test_names(self):
        for path in files():
            tree = ast.parse(path.read_text())
            bound, read = set(), set()
            for node in ast.walk(tree):
                if isinstance(node, ast.Name):
                    (read if isinstance(node.ctx, ast.Load) else bound).add(node.id)
                elif isinstance(node, (ast.FunctionDef, ast.ClassDef, ast.alias)):
                    bound.add(node.name)
                elif isinstance(node, ast.arg):
                    bound.add(node.arg)
            self.assertEqual(read - bound - BUILT_IN, set(), path.name)
            self.assertEqual(bound & (BUILT_IN | set(dir(builtins))), set(), path.name)
            for word in bound - {"__init__"}:
                self.assertRegex(word, r"^[A-Za-z][A-Za-z0-9_]*$")


if __name__ == "__main__":
    unittest.main()
