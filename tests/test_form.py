"""The package's files keep to the small part of Python that can be seen by a walk over them."""

import ast
import pathlib
import re
import unittest

PACKAGE = pathlib.Path(__file__).resolve().parent.parent / "dotboxes"
FILES = sorted(path for path in PACKAGE.rglob("*") if path.is_file() and "__pycache__" not in path.parts)

ALLOWED_NODES = (
    ast.Module, ast.FunctionDef, ast.ClassDef, ast.arguments, ast.arg, ast.Lambda, ast.ImportFrom, ast.alias,
    ast.Assign, ast.AugAssign, ast.If, ast.While, ast.For, ast.Return, ast.Break, ast.Continue, ast.Pass,
    ast.Raise, ast.Try, ast.ExceptHandler, ast.Expr, ast.Constant, ast.List, ast.Tuple, ast.Dict, ast.BinOp,
    ast.UnaryOp, ast.BoolOp, ast.Compare, ast.IfExp, ast.Call, ast.keyword, ast.Attribute, ast.Subscript,
    ast.Slice, ast.ListComp, ast.comprehension, ast.Name, ast.JoinedStr, ast.FormattedValue,
    ast.operator, ast.unaryop, ast.boolop, ast.cmpop, ast.expr_context,
)
OWN_NAMES_OF_PYTHON = set(
    "len range enumerate zip min max sum abs sorted reversed int str bool list tuple dict set frozenset "
    "isinstance ord repr any all divmod Exception ValueError TypeError KeyError IndexError LookupError "
    "ZeroDivisionError ArithmeticError OverflowError RuntimeError NotImplementedError AttributeError "
    "StopIteration".split())
WORDS_NOWHERE = re.compile(
    r"\b(type|typing|typing_extensions|enum|Enum|IntEnum|StrEnum|Flag|IntFlag|Generic|Protocol|ABC|ABCMeta|"
    r"namedtuple|NamedTuple|TypedDict|TYPE_CHECKING|abstractmethod)\b|dataclass|overload|contextmanager")


def nodes_of(path):
    return list(ast.walk(ast.parse(path.read_text(encoding="utf-8"))))


def bound_names(nodes):
    bound = {node.id for node in nodes if isinstance(node, ast.Name) and isinstance(node.ctx, ast.Store)}
    bound |= {node.arg for node in nodes if isinstance(node, ast.arg)}
    bound |= {node.name for node in nodes if isinstance(node, (ast.FunctionDef, ast.ClassDef, ast.alias))}
    return bound


class Form(unittest.TestCase):
    def test_the_files_are_found(self):
        self.assertIn(PACKAGE / "__init__.py", FILES)
        self.assertIn(PACKAGE / "layer.py", FILES)

    def test_files_are_plain(self):
        for path in FILES:
            with self.subTest(path=path.name):
                self.assertRegex(path.name, r"^(__init__|__main__|[a-z][a-z0-9_]*)\.py$")
                self.assertRegex(path.read_text(encoding="utf-8"), r"^[ -~\n]*\Z")

    def test_sizes(self):
        for path in FILES:
            with self.subTest(path=path.name):
                lines = path.read_text(encoding="utf-8").splitlines()
                self.assertLessEqual(len(lines), 400)
                self.assertLessEqual(max([len(line) for line in lines]), 120)
                for node in nodes_of(path):
                    if isinstance(node, ast.FunctionDef):
                        self.assertLessEqual(node.end_lineno - node.lineno + 1, 40, node.name)

    def test_only_plain_statements_and_expressions(self):
        for path in FILES:
            with self.subTest(path=path.name):
                for node in nodes_of(path):
                    self.assertIsInstance(node, ALLOWED_NODES)
                    self.assertNotIsInstance(node, (ast.Div, ast.MatMult))
                    self.assertEqual(getattr(node, "decorator_list", []), [])
                    if isinstance(node, (ast.For, ast.While)):
                        self.assertEqual(node.orelse, [])
                    if isinstance(node, ast.Constant):
                        self.assertIn(type(node.value), (int, str, bool, type(None)))

    def test_imports_are_the_packages_own(self):
        for path in FILES:
            with self.subTest(path=path.name):
                for node in nodes_of(path):
                    if isinstance(node, ast.ImportFrom):
                        self.assertEqual(node.level, 0)
                        self.assertEqual(node.module.split(".")[0], "dotboxes")
                        self.assertNotIn("*", [name.name for name in node.names])

    def test_names(self):
        for path in FILES:
            with self.subTest(path=path.name):
                nodes = nodes_of(path)
                bound = bound_names(nodes)
                self.assertEqual(sorted(bound & OWN_NAMES_OF_PYTHON), [])
                self.assertEqual([name for name in bound if name.startswith("_") and name != "__init__"], [])
                read = {node.id for node in nodes if isinstance(node, ast.Name)}
                self.assertEqual(sorted(read - bound - OWN_NAMES_OF_PYTHON), [])

    def test_words_that_stand_nowhere(self):
        for path in FILES:
            with self.subTest(path=path.name):
                self.assertIsNone(WORDS_NOWHERE.search(path.read_text(encoding="utf-8")))


if __name__ == "__main__":
    unittest.main()
