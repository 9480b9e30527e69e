"""Holds the package's files to those rules of the language that can be read off them simply."""

import ast
import builtins
import pathlib
import re
import unittest

PACKAGE = pathlib.Path(__file__).resolve().parent.parent / "assemblyhall"
BUILT_IN = set("""len range enumerate zip min max sum abs sorted reversed int str bool list tuple dict set isinstance
    ord repr any all divmod Exception ValueError KeyError IndexError LookupError ZeroDivisionError""".split())
NODES = set("""Module Expr Constant ImportFrom alias FunctionDef arguments arg ClassDef Assign AugAssign If While For
    Return Break Continue Pass Raise Try ExceptHandler Call Attribute Subscript Slice Name Load Store BinOp UnaryOp
    BoolOp Compare IfExp List Tuple Dict ListComp comprehension JoinedStr FormattedValue keyword Lambda Add Sub Mult
    FloorDiv Mod USub And Or Not Eq NotEq Lt LtE Gt GtE In NotIn Is IsNot""".split())
BANNED_WORDS = re.compile(r"\b(type|typing|typing_extensions|enum|Enum|IntEnum|StrEnum|Flag|IntFlag|Generic|Protocol|"
                          r"ABC|ABCMeta|namedtuple|NamedTuple|TypedDict|TYPE_CHECKING|abstractmethod)\b|"
                          r"dataclass|overload|contextmanager")
OWN_METHODS = {"__init__"}


def names_bound(tree):
    bound = set()
    for node in ast.walk(tree):
        if isinstance(node, (ast.FunctionDef, ast.ClassDef)):
            bound.add(node.name)
        elif isinstance(node, ast.arg):
            bound.add(node.arg)
        elif isinstance(node, ast.alias):
            bound.add(node.name)
        elif isinstance(node, ast.Name) and isinstance(node.ctx, ast.Store):
            bound.add(node.id)
    return bound


def names_defined(tree):
    defined = set()
    for node in tree.body:
        if isinstance(node, (ast.FunctionDef, ast.ClassDef)):
            defined.add(node.name)
        elif isinstance(node, ast.Assign):
            defined.add(node.targets[0].id)
    return defined


class Language(unittest.TestCase):
    def setUp(self):
        self.files = sorted(path for path in PACKAGE.iterdir() if path.name != "__pycache__")

    def trees(self):
        return [(path, ast.parse(path.read_text())) for path in self.files]

    def test_files(self):
        self.assertIn(PACKAGE / "__init__.py", self.files)
        for path in self.files:
            self.assertRegex(path.name, r"^[a-z_0-9]+\.py$")

    def test_signs_and_sizes(self):
        for path in self.files:
            text = path.read_bytes().decode("ascii")
            self.assertRegex(text, r"^[ -~\n]*$", path)
            self.assertIsNone(BANNED_WORDS.search(text), path)
            rows = text.splitlines()
            self.assertLessEqual(len(rows), 400, path)
            self.assertLessEqual(max(len(row) for row in rows), 120, path)

    def test_functions(self):
        for path, tree in self.trees():
            for node in ast.walk(tree):
                if isinstance(node, ast.FunctionDef):
                    self.assertLessEqual(node.end_lineno - node.lineno + 1, 40, (path, node.name))
                    self.assertFalse(node.decorator_list or node.args.vararg or node.args.kwarg, (path, node.name))
                    self.assertTrue(node.name in OWN_METHODS or node.name[0] != "_", (path, node.name))

    def test_what_is_written(self):
        for path, tree in self.trees():
            for node in ast.walk(tree):
                self.assertIn(node.__class__.__name__, NODES, (path, getattr(node, "lineno", 0)))
                if isinstance(node, ast.Assign):
                    self.assertEqual(len(node.targets), 1, (path, node.lineno))

    def test_names(self):
        for path, tree in self.trees():
            bound = names_bound(tree)
            self.assertEqual(bound & set(dir(builtins)), set(), path)
            for node in ast.walk(tree):
                if isinstance(node, ast.Name):
                    self.assertIn(node.id, bound | BUILT_IN, (path, node.lineno))

    def test_imports(self):
        for path, tree in self.trees():
            for node in ast.walk(tree):
                if isinstance(node, ast.ImportFrom):
                    source = PACKAGE / (node.module.partition(".")[2] + ".py")
                    self.assertTrue(node.module.startswith("assemblyhall.") and node.level == 0, (path, node.lineno))
                    defined = names_defined(ast.parse(source.read_text()))
                    for alias in node.names:
                        self.assertIn(alias.name, defined, (path, node.lineno))


if __name__ == "__main__":
    unittest.main()
