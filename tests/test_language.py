"""The package keeps to the part of Python that it is written in, so far as its files show it."""

import ast
import builtins
import re
import unittest
from pathlib import Path

PACKAGE = Path(__file__).resolve().parent.parent / "wholeowns"
TREES = {path: ast.parse(path.read_text()) for path in sorted(PACKAGE.rglob("*.py"))}
PYTHONS_NAMES = set(vars(builtins))
ALLOWED_NAMES = set(
    "len range enumerate zip min max sum abs sorted reversed int str bool list tuple dict set frozenset isinstance "
    "ord repr any all divmod Exception ValueError TypeError KeyError IndexError LookupError ZeroDivisionError "
    "ArithmeticError OverflowError RuntimeError NotImplementedError AttributeError StopIteration".split())
ALLOWED_METHODS = set(
    "append clear copy count endswith extend find get index insert isalnum isalpha isdigit islower isspace isupper "
    "items join keys ljust lower lstrip partition pop remove replace reverse rfind rjust rpartition rsplit rstrip "
    "setdefault split splitlines startswith strip update upper values zfill bit_length".split())
FORBIDDEN_WORDS = (
    r"\b(type|typing|typing_extensions|enum|Enum|IntEnum|StrEnum|Flag|IntFlag|Generic|Protocol|ABC|ABCMeta|"
    r"namedtuple|NamedTuple|TypedDict|TYPE_CHECKING|abstractmethod)\b|dataclass|overload|contextmanager")
FORMS = tuple(getattr(ast, name) for name in (
    "Module ImportFrom alias FunctionDef arguments arg ClassDef Assign AugAssign If While For Return Break Continue "
    "Pass Raise Try ExceptHandler Expr Call Constant Name Attribute Subscript Slice Load Store List Tuple Dict "
    "BinOp UnaryOp BoolOp Compare IfExp ListComp comprehension Lambda keyword JoinedStr FormattedValue "
    "operator unaryop boolop cmpop").split())
PLAIN_NAME = r"^[A-Za-z][A-Za-z0-9_]*$"


def each(*kinds):
    """Every node of these kinds, with where it stands."""
    return [
        (f"{path.name}:{getattr(node, 'lineno', 0)}", node)
        for path, tree in TREES.items() for node in ast.walk(tree) if isinstance(node, kinds)
    ]


def top_names(tree):
    names = {part.name for part in tree.body if isinstance(part, (ast.FunctionDef, ast.ClassDef))}
    return names | {part.targets[0].id for part in tree.body if isinstance(part, ast.Assign)}


class Files(unittest.TestCase):
    def test_names(self):
        self.assertTrue(TREES)
        for path in PACKAGE.rglob("*"):
            if "__pycache__" not in path.parts:
                self.assertRegex(path.name, r"^[a-z_][a-z0-9_]*\.py$")
                self.assertNotIn(path.stem, PYTHONS_NAMES)

    def test_signs_sizes_and_words(self):
        for path in TREES:
            text = path.read_text()
            lines = text.split("\n")
            self.assertRegex(text, r"\A[ -~\n]*\n\Z", path.name)
            self.assertLessEqual(len(lines), 401, path.name)
            self.assertLessEqual(max(map(len, lines)), 120, path.name)
            self.assertIsNone(re.search(FORBIDDEN_WORDS, text), path.name)

    def test_imports(self):
        for where, node in each(ast.ImportFrom):
            self.assertEqual(node.level, 0, where)
            self.assertRegex(node.module, r"^wholeowns\.[a-z]+$", where)
            home = TREES[PACKAGE / (node.module.split(".")[1] + ".py")]
            for name in node.names:
                self.assertIn(name.name, top_names(home), where)
                self.assertIsNone(name.asname, where)

    def test_imports_are_used_and_not_hidden(self):
        for path, tree in TREES.items():
            nodes = list(ast.walk(tree))
            imported = {n.name for node in nodes if isinstance(node, ast.ImportFrom) for n in node.names}
            names = [node for node in nodes if isinstance(node, ast.Name)]
            bound = {node.id for node in names if isinstance(node.ctx, ast.Store)}
            bound |= {node.arg for node in nodes if isinstance(node, ast.arg)}
            defined = {node.name for node in nodes if isinstance(node, (ast.FunctionDef, ast.ClassDef))}
            self.assertLessEqual(imported, {node.id for node in names}, path.name)
            self.assertEqual((imported | defined) & bound, set(), path.name)


class Forms(unittest.TestCase):
    def test_only_these(self):
        for where, node in each(ast.AST):
            self.assertIsInstance(node, FORMS, where)
            self.assertNotIsInstance(node, (ast.Div, ast.MatMult), where)
            self.assertNotIsInstance(getattr(node, "value", None), (float, bytes), where)

    def test_functions(self):
        for where, node in each(ast.FunctionDef):
            self.assertLessEqual(node.end_lineno - node.lineno + 1, 40, where)
            self.assertEqual(node.decorator_list, [], where)
            self.assertEqual(node.args.posonlyargs + node.args.kwonlyargs, [], where)
            self.assertIsNone(node.args.vararg or node.args.kwarg, where)

    def test_statements(self):
        for where, node in each(ast.Assign):
            self.assertEqual(len(node.targets), 1, where)
        for where, node in each(ast.For, ast.While):
            self.assertEqual(node.orelse, [], where)
        for where, node in each(ast.ListComp):
            self.assertEqual(len(node.generators), 1, where)
            self.assertLessEqual(len(node.generators[0].ifs), 1, where)

    def test_is_beside_none_true_and_false_alone(self):
        for where, node in each(ast.Compare):
            for sign, right in zip(node.ops, node.comparators):
                if isinstance(sign, (ast.Is, ast.IsNot)):
                    self.assertIn(ast.unparse(right), ("None", "True", "False"), where)

    def test_no_call_by_itself_but_calls(self):
        for where, node in each(ast.Expr):
            if not isinstance(node.value, ast.Call):
                self.assertRegex(where, r":1$")


class Names(unittest.TestCase):
    def test_plain(self):
        for where, node in each(ast.Name):
            self.assertRegex(node.id, PLAIN_NAME, where)
            if node.id in PYTHONS_NAMES:
                self.assertIn(node.id, ALLOWED_NAMES, where)
                self.assertIsInstance(node.ctx, ast.Load, where)
        for where, node in each(ast.arg):
            self.assertRegex(node.arg, PLAIN_NAME, where)
            self.assertNotIn(node.arg, PYTHONS_NAMES, where)

    def test_methods_and_values(self):
        methods = {part.name for where, node in each(ast.ClassDef) for part in node.body
                   if isinstance(part, ast.FunctionDef)}
        values = {node.attr for where, node in each(ast.Attribute) if isinstance(node.ctx, ast.Store)}
        pythons = {name for kind in (str, int, list, dict, set, bytes, tuple) for name in dir(kind)}
        self.assertEqual(methods & values, set())
        self.assertEqual((methods | values) & (pythons - {"__init__"}), set())
        for where, node in each(ast.Attribute):
            self.assertIn(node.attr, ALLOWED_METHODS | methods | values, where)


if __name__ == "__main__":
    unittest.main()
