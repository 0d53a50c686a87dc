"""The package's files keep to the small part of Python that can be seen by a walk over them."""

import ast
import builtins
import pathlib
import re
import unittest

PACKAGE = pathlib.Path(__file__).resolve().parent.parent / "dotboxes"
FILES = sorted(path for path in PACKAGE.rglob("*") if path.is_file() and "__pycache__" not in path.parts)

ALLOWED_NODES = (
    ast.Module, ast.FunctionDef, ast.ClassDef, ast.arguments, ast.arg, ast.Lambda, ast.ImportFrom, ast.alias,
    ast.Assign, ast.AugAssign, ast.If, ast.While, ast.For, ast.Return, ast.Break, ast.Continue, ast.Pass,
    ast.Raise, ast.Try, ast.ExceptHandler, ast.Expr, ast.Constant, ast.List, ast.Tuple, ast.Dict, ast.BinOp,
    ast.UnaryOp, ast.BoolOp, ast.Compare, ast.IfExp, ast.Call, ast.keyword, ast.Attribute, ast.Subscript,
    ast.Slice, ast.ListComp, ast.comprehension, ast.Name, ast.JoinedStr, ast.FormattedValue,
    ast.operator, ast.unaryop, ast.boolop, ast.cmpop, ast.expr_context,
)
OWN_NAMES_OF_PYTHON = set(
    "len range enumerate zip min max sum abs sorted reversed int str bool list tuple dict set frozenset "
    "isinstance ord repr any all divmod Exception ValueError TypeError KeyError IndexError LookupError "
    "ZeroDivisionError ArithmeticError OverflowError RuntimeError NotImplementedError AttributeError "
    "StopIteration".split())
WORDS_NOWHERE = re.compile(
    r"\b(type|typing|typing_extensions|enum|Enum|IntEnum|StrEnum|Flag|IntFlag|Generic|Protocol|ABC|ABCMeta|"
    r"namedtuple|NamedTuple|TypedDict|TYPE_CHECKING|abstractmethod)\b|dataclass|overload|contextmanager")


METHODS_OF_PYTHON = set(
    "append clear copy count endswith extend find get index insert isalnum isalpha isdigit islower isspace isupper "
    "items join keys ljust lower lstrip partition pop remove replace reverse rfind rjust rpartition rsplit rstrip "
    "setdefault split splitlines startswith strip update upper values zfill bit_length".split())
CHANGING_METHODS = set("append clear extend insert pop remove reverse setdefault update".split())
NAMES_OF_VALUES = set().union(*[dir(value) for value in ("", 0, [], {}, set(), b"", ())])


def nodes_of(path):
    return list(ast.walk(ast.parse(path.read_text(encoding="utf-8"))))


def bound_names(nodes):
    bound = {node.id for node in nodes if isinstance(node, ast.Name) and isinstance(node.ctx, ast.Store)}
    bound |= {node.arg for node in nodes if isinstance(node, ast.arg)}
    bound |= {node.name for node in nodes if isinstance(node, (ast.FunctionDef, ast.ClassDef, ast.alias))}
    return bound


def top_names(path):
    names = []
    for node in ast.parse(path.read_text(encoding="utf-8")).body:
        if isinstance(node, ast.Assign):
            names += [target.id for target in node.targets]
        elif isinstance(node, ast.ImportFrom):
            names += [name.name for name in node.names]
        elif isinstance(node, (ast.FunctionDef, ast.ClassDef)):
            names.append(node.name)
    return names


def bound_in_defs(node):
    if not isinstance(node, ast.FunctionDef):
        return []
    return [inner for inner in ast.walk(node) if isinstance(inner, ast.Name) and isinstance(inner.ctx, ast.Store)]


def changed_by(node):
    """What the node changes by an index or a method."""
    if isinstance(node, ast.Subscript) and isinstance(node.ctx, ast.Store):
        return [node.value]
    if isinstance(node, ast.Call) and isinstance(node.func, ast.Attribute) and node.func.attr in CHANGING_METHODS:
        return [node.func.value]
    return []


class Form(unittest.TestCase):
    def test_the_files_are_found(self):
        self.assertIn(PACKAGE / "__init__.py", FILES)
        self.assertIn(PACKAGE / "layer.py", FILES)

    def test_files_are_plain(self):
        for path in FILES:
            with self.subTest(path=path.name):
                self.assertRegex(path.name, r"^(__init__|__main__|[a-z][a-z0-9_]*)\.py$")
                self.assertRegex(path.read_text(encoding="utf-8"), r"^[ -~\n]*\Z")

    def test_sizes(self):
        for path in FILES:
            with self.subTest(path=path.name):
                lines = path.read_text(encoding="utf-8").splitlines()
                self.assertLessEqual(len(lines), 400)
                self.assertLessEqual(max([len(line) for line in lines]), 120)
                for node in nodes_of(path):
                    if isinstance(node, ast.FunctionDef):
                        self.assertLessEqual(node.end_lineno - node.lineno + 1, 40, node.name)

    def test_only_plain_statements_and_expressions(self):
        for path in FILES:
            with self.subTest(path=path.name):
                for node in nodes_of(path):
                    self.assertIsInstance(node, ALLOWED_NODES)
                    self.assertNotIsInstance(node, (ast.Div, ast.MatMult))
                    self.assertEqual(getattr(node, "decorator_list", []), [])
                    if isinstance(node, (ast.For, ast.While)):
                        self.assertEqual(node.orelse, [])
                    if isinstance(node, ast.Constant):
                        self.assertIn(type(node.value), (int, str, bool, type(None)))

    def test_imports_are_the_packages_own(self):
        for path in FILES:
            with self.subTest(path=path.name):
                for node in nodes_of(path):
                    if isinstance(node, ast.ImportFrom):
                        self.assertEqual(node.level, 0)
                        self.assertEqual(node.module.split(".")[0], "dotboxes")
                        self.assertNotIn("*", [name.name for name in node.names])

    def test_names(self):
        for path in FILES:
            with self.subTest(path=path.name):
                nodes = nodes_of(path)
                bound = bound_names(nodes)
                self.assertEqual(sorted(bound & OWN_NAMES_OF_PYTHON), [])
                self.assertEqual([name for name in bound if name.startswith("_") and name != "__init__"], [])
                read = {node.id for node in nodes if isinstance(node, ast.Name)}
                self.assertEqual(sorted(read - bound - OWN_NAMES_OF_PYTHON), [])

    def test_one_target_in_an_assignment(self):
        for path in FILES:
            with self.subTest(path=path.name):
                for node in nodes_of(path):
                    if isinstance(node, ast.Assign):
                        self.assertEqual(len(node.targets), 1)
                        self.assertNotIsInstance(node.targets[0], (ast.Tuple, ast.List))

    def test_names_of_a_files_top_are_bound_once(self):
        for path in FILES:
            with self.subTest(path=path.name):
                bound = top_names(path)
                self.assertEqual(sorted(bound), sorted(set(bound)))
                inner = [node.arg for node in nodes_of(path) if isinstance(node, ast.arg)]
                inner += [target.id for node in nodes_of(path) for target in bound_in_defs(node)]
                self.assertEqual(sorted(set(inner) & set(bound)), [])
                self.assertEqual(sorted(set(inner) & set(dir(builtins))), [])

    def test_no_two_files_draw_from_one_another(self):
        drawn = {"dotboxes." + path.stem: {node.module for node in nodes_of(path) if isinstance(node, ast.ImportFrom)}
                 for path in FILES}
        left = dict(drawn)
        while left:
            free = [name for name in left if not left[name] & set(left)]
            self.assertNotEqual(free, [], f"in a ring: {sorted(left)}")
            left = {name: left[name] for name in left if name not in free}

    def test_methods_and_values(self):
        nodes = [node for path in FILES for node in nodes_of(path)]
        classes = [node for node in nodes if isinstance(node, ast.ClassDef)]
        methods = [node.name for one in classes for node in one.body if isinstance(node, ast.FunctionDef)]
        values = {node.attr for node in nodes if isinstance(node, ast.Attribute) and isinstance(node.ctx, ast.Store)}
        self.assertEqual(sorted(set(methods) & values), [])
        self.assertEqual(sorted((set(methods) - {"__init__"} | values) & NAMES_OF_VALUES), [])
        calls = [node.func for node in nodes if isinstance(node, ast.Call)]
        called = {function.attr for function in calls if isinstance(function, ast.Attribute)}
        self.assertEqual(sorted(called - set(methods) - METHODS_OF_PYTHON), [])
        read = {node.attr for node in nodes if isinstance(node, ast.Attribute)}
        self.assertEqual(sorted(read - called - values), [])

    def test_what_a_loop_walks_is_not_changed_in_it(self):
        for path in FILES:
            for loop in nodes_of(path):
                if isinstance(loop, ast.For):
                    walked = {ast.unparse(node) for node in ast.walk(loop.iter)}
                    changed = {ast.unparse(owner) for node in ast.walk(loop) for owner in changed_by(node)}
                    self.assertEqual(sorted(walked & changed), [], f"{path.name}, {loop.lineno}")

    def test_is_stands_beside_none_true_and_false_alone(self):
        for path in FILES:
            for node in nodes_of(path):
                if isinstance(node, ast.Compare) and isinstance(node.ops[0], (ast.Is, ast.IsNot)):
                    self.assertIn(ast.unparse(node.comparators[0]), ("None", "True", "False"))

    def test_written_exponents_and_no_sets(self):
        for path in FILES:
            for node in nodes_of(path):
                if isinstance(node, ast.BinOp) and isinstance(node.op, ast.Pow):
                    self.assertIsInstance(node.right, ast.Constant)
                self.assertNotIsInstance(node, (ast.Set, ast.SetComp, ast.DictComp, ast.GeneratorExp))

    def test_words_that_stand_nowhere(self):
        for path in FILES:
            with self.subTest(path=path.name):
                self.assertIsNone(WORDS_NOWHERE.search(path.read_text(encoding="utf-8")))


if __name__ == "__main__":
    unittest.main()
