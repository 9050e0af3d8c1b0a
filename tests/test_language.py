"""The package's files against those rules of the language that can be seen from their form."""

import ast
import builtins
import re
import unittest
from pathlib import Path

PACKAGE = Path(__file__).resolve().parent.parent / "actioncaches"

OWN_NAMES = set("""len range enumerate zip min max sum abs sorted reversed int str bool list tuple dict set frozenset
    isinstance ord repr any all divmod Exception ValueError TypeError KeyError IndexError LookupError
    ZeroDivisionError ArithmeticError OverflowError RuntimeError NotImplementedError AttributeError
    StopIteration""".split())
OWN_METHODS = set("""append clear copy count endswith extend find get index insert isalnum isalpha isdigit islower
    isspace isupper items join keys ljust lower lstrip partition pop remove replace reverse rfind rjust rpartition
    rsplit rstrip setdefault split splitlines startswith strip update upper values zfill bit_length""".split())
NOT_USED = set("""register mro elements open input version_info with_traceback add_note format format_map
    f_back tb_next co_names""".split())
WORDS = re.compile(r"""\b(type|typing|typing_extensions|enum|Enum|IntEnum|StrEnum|Flag|IntFlag|Generic|Protocol|ABC
    |ABCMeta|namedtuple|NamedTuple|TypedDict|TYPE_CHECKING|abstractmethod)\b|dataclass|overload|contextmanager""", re.X)
CHANGING = set("append clear extend insert pop remove reverse setdefault update".split())
DOUBLE = {"__init__", "__eq__", "__repr__", "__str__", "__len__", "__all__", "__version__"}
STATEMENTS = (ast.FunctionDef, ast.ClassDef, ast.Assign, ast.AugAssign, ast.If, ast.While, ast.For, ast.Return,
              ast.Break, ast.Continue, ast.Pass, ast.Raise, ast.Try, ast.Expr, ast.ImportFrom)
EXPRESSIONS = (ast.BoolOp, ast.BinOp, ast.UnaryOp, ast.IfExp, ast.Dict, ast.ListComp, ast.Compare, ast.Call,
               ast.Constant, ast.Attribute, ast.Subscript, ast.Name, ast.List, ast.Tuple, ast.Slice, ast.Lambda)


def trees():
    return [(path, ast.parse(path.read_text("utf-8"))) for path in sorted(PACKAGE.glob("*.py"))]


def nodes(kind):
    return [node for path, tree in trees() for node in ast.walk(tree) if isinstance(node, kind)]


def names_given():
    given = [node.id for node in nodes(ast.Name) if isinstance(node.ctx, ast.Store)]
    given += [node.arg for node in nodes(ast.arg)]
    return given + [node.name for node in nodes((ast.FunctionDef, ast.ClassDef))]


def methods():
    return {part.name for node in nodes(ast.ClassDef) for part in node.body if isinstance(part, ast.FunctionDef)}


def values():
    return {node.attr for node in nodes(ast.Attribute) if isinstance(node.ctx, ast.Store)}


class Files(unittest.TestCase):
    def test_nothing_but_plain_files(self):
        found = [path for path in PACKAGE.rglob("*") if "__pycache__" not in path.parts]
        self.assertIn(PACKAGE / "__init__.py", found)
        for path in found:
            self.assertRegex(path.name, r"^[a-z0-9_]+\.py$")

    def test_signs_and_sizes(self):
        for path, tree in trees():
            text = path.read_bytes().decode("utf-8")
            self.assertRegex(text, r"\A[ -~\n]*\Z")
            self.assertLessEqual(len(text.splitlines()), 400)
            self.assertLessEqual(max(len(row) for row in text.splitlines()), 120)
            self.assertIsNone(WORDS.search(text), path)
        for node in nodes(ast.FunctionDef):
            self.assertLessEqual(node.end_lineno - node.lineno + 1, 40, node.name)


class Forms(unittest.TestCase):
    def test_statements_and_expressions(self):
        for node in nodes(ast.stmt):
            self.assertIsInstance(node, STATEMENTS, node.lineno)
        for node in nodes(ast.expr):
            self.assertIsInstance(node, EXPRESSIONS, node.lineno)
        for node in nodes((ast.While, ast.For)):
            self.assertEqual(node.orelse, [])
        for node in nodes(ast.Assign):
            self.assertEqual(len(node.targets), 1)
        for node in nodes(ast.Constant):
            self.assertTrue(node.value is None or isinstance(node.value, (int, str)))
        for node in nodes(ast.operator):
            self.assertNotIsInstance(node, (ast.Div, ast.MatMult, ast.Pow))
        for node in nodes((ast.FunctionDef, ast.ClassDef)):
            self.assertEqual(node.decorator_list, [])
        for node in nodes(ast.arguments):
            self.assertEqual((node.vararg, node.kwarg, node.kwonlyargs, node.posonlyargs), (None, None, [], []))

    def test_is_stands_beside_none_and_truths(self):
        for node in nodes(ast.Compare):
            if any(isinstance(sign, (ast.Is, ast.IsNot)) for sign in node.ops):
                self.assertIsInstance(node.comparators[0], ast.Constant)

    def test_imports_are_of_the_package(self):
        for node in nodes(ast.ImportFrom):
            self.assertTrue(node.level == 0 and node.module.startswith("actioncaches."))

    def test_the_top_of_a_file(self):
        for path, tree in trees():
            for place, node in enumerate(tree.body):
                docstring = place == 0 and isinstance(node, ast.Expr)
                self.assertTrue(docstring or isinstance(node, (ast.ImportFrom, ast.FunctionDef, ast.ClassDef,
                                                               ast.Assign)))
                if isinstance(node, ast.Assign):
                    ast.literal_eval(node.value)

    def test_what_stands_at_the_top_is_not_changed(self):
        tops = {target.id for path, tree in trees() for node in tree.body if isinstance(node, ast.Assign)
                for target in node.targets}
        for node in nodes(ast.Attribute):
            if node.attr in CHANGING and isinstance(node.value, ast.Name):
                self.assertNotIn(node.value.id, tops)
        for node in nodes(ast.Subscript):
            if isinstance(node.ctx, ast.Store):
                self.assertFalse(isinstance(node.value, ast.Name) and node.value.id in tops)


class Names(unittest.TestCase):
    def test_plain_and_not_pythons_own(self):
        for name in names_given() + sorted(values()):
            self.assertTrue(name in DOUBLE or re.match(r"[A-Za-z][A-Za-z0-9_]*\Z", name), name)
            self.assertNotIn(name, NOT_USED)
        for name in names_given():
            self.assertTrue(name in DOUBLE or not hasattr(builtins, name), name)

    def test_only_those_of_pythons_own_that_are_allowed(self):
        for node in nodes(ast.Name):
            self.assertTrue(node.id in OWN_NAMES or not hasattr(builtins, node.id), node.id)

    def test_only_own_attributes_and_allowed_methods(self):
        for node in nodes(ast.Attribute):
            self.assertIn(node.attr, OWN_METHODS | methods() | values())
        self.assertEqual(methods() & values(), set())

    def test_bound_once_at_the_top(self):
        for path, tree in trees():
            bound = [node.name for node in tree.body if isinstance(node, (ast.FunctionDef, ast.ClassDef))]
            bound += [target.id for node in tree.body if isinstance(node, ast.Assign) for target in node.targets]
            self.assertEqual(len(bound), len(set(bound)))


if __name__ == "__main__":
    unittest.main()
