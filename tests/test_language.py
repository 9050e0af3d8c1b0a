"""The package's files against those rules of the language that can be seen from their form."""

import ast
import builtins
import re
import unittest
from pathlib import Path

PACKAGE = Path(__file__).resolve().parent.parent / "actioncaches"

OWN_NAMES = set("""len range enumerate zip min max sum abs sorted reversed int str bool list tuple dict set frozenset
    isinstance ord repr any all divmod Exception ValueError TypeError KeyError IndexError LookupError
    ZeroDivisionError ArithmeticError OverflowError RuntimeError NotImplementedError AttributeError
    StopIteration""".split())
OWN_METHODS = set("""append clear copy count endswith extend find get index insert isalnum isalpha isdigit islower
    isspace isupper items join keys ljust lower lstrip partition pop remove replace reverse rfind rjust rpartition
    rsplit rstrip setdefault split splitlines startswith strip update upper values zfill bit_length""".split())
NOT_USED = set("""register mro elements open input version_info with_traceback add_note format format_map
    f_back tb_next co_names""".split())
WORDS = re.compile(r"""\b(type|typing|typing_extensions|enum|Enum|IntEnum|StrEnum|Flag|IntFlag|Generic|Protocol|ABC
    |ABCMeta|namedtuple|NamedTuple|TypedDict|TYPE_CHECKING|abstractmethod)\b|dataclass|overload|contextmanager""", re.X)
CHANGING = set("append clear extend insert pop remove reverse setdefault update".split())
WALKED = {"zip", "enumerate", "reversed", "range", "items", "keys", "values"}
WALKERS = {"list", "tuple", "dict", "sorted", "sum", "any", "all", "enumerate", "zip", "min", "max", "join"}
NOT_VALUES = set("""items keys values pop update append clear extend insert remove reverse setdefault sort args encode
    format""".split())
FREE_VALUES = set("count index title find get join lower upper split strip copy add".split())
FREE_METHODS = {"add", "discard"} | OWN_METHODS
PYTHONS = {name for kind in (str, int, list, dict, set, frozenset, bytes, tuple) for name in dir(kind)}
DOUBLE = {"__init__", "__eq__", "__repr__", "__str__", "__len__", "__all__", "__version__"}
STATEMENTS = (ast.FunctionDef, ast.ClassDef, ast.Assign, ast.AugAssign, ast.If, ast.While, ast.For, ast.Return,
              ast.Break, ast.Continue, ast.Pass, ast.Raise, ast.Try, ast.Expr, ast.ImportFrom)
EXPRESSIONS = (ast.BoolOp, ast.BinOp, ast.UnaryOp, ast.IfExp, ast.Dict, ast.ListComp, ast.Compare, ast.Call,
               ast.Constant, ast.Attribute, ast.Subscript, ast.Name, ast.List, ast.Tuple, ast.Slice, ast.Lambda)


def trees():
    return [(path, ast.parse(path.read_text("utf-8"))) for path in sorted(PACKAGE.glob("*.py"))]


def nodes(kind):
    return [node for path, tree in trees() for node in ast.walk(tree) if isinstance(node, kind)]


def names_given():
    given = [node.id for node in nodes(ast.Name) if isinstance(node.ctx, ast.Store)]
    given += [node.arg for node in nodes(ast.arg)]
    return given + [node.name for node in nodes((ast.FunctionDef, ast.ClassDef))]


def methods():
    return {part.name for node in nodes(ast.ClassDef) for part in node.body if isinstance(part, ast.FunctionDef)}


def values():
    return {node.attr for node in nodes(ast.Attribute) if isinstance(node.ctx, ast.Store)}


def called(node):
    """The name by which a call calls."""
    return node.func.attr if isinstance(node.func, ast.Attribute) else getattr(node.func, "id", None)


class Files(unittest.TestCase):
    def test_nothing_but_plain_files(self):
        found = [path for path in PACKAGE.rglob("*") if "__pycache__" not in path.parts]
        self.assertIn(PACKAGE / "__init__.py", found)
        for path in found:
            self.assertRegex(path.name, r"^[a-z0-9_]+\.py$")
            self.assertNotRegex(path.stem, r"^(test.*|site|conftest|sitecustomize|usercustomize)$")
            self.assertFalse(hasattr(builtins, path.stem) and path.stem != "__init__", path.stem)

    def test_signs_and_sizes(self):
        for path, tree in trees():
            text = path.read_bytes().decode("utf-8")
            self.assertRegex(text, r"\A[ -~\n]*\Z")
            self.assertLessEqual(len(text.splitlines()), 400)
            self.assertLessEqual(max(len(row) for row in text.splitlines()), 120)
            self.assertIsNone(WORDS.search(text), path)
        for node in nodes(ast.FunctionDef):
            self.assertLessEqual(node.end_lineno - node.lineno + 1, 40, node.name)


class Forms(unittest.TestCase):
    def test_statements_and_expressions(self):
        for node in nodes(ast.stmt):
            self.assertIsInstance(node, STATEMENTS, node.lineno)
        for node in nodes(ast.expr):
            self.assertIsInstance(node, EXPRESSIONS, node.lineno)
        for node in nodes((ast.While, ast.For)):
            self.assertEqual(node.orelse, [])
        for node in nodes(ast.Assign):
            self.assertEqual(len(node.targets), 1)
        for node in nodes(ast.Constant):
            self.assertTrue(node.value is None or isinstance(node.value, (int, str)))
        for node in nodes(ast.operator):
            self.assertNotIsInstance(node, (ast.Div, ast.MatMult, ast.Pow))
        for node in nodes((ast.FunctionDef, ast.ClassDef)):
            self.assertEqual(node.decorator_list, [])
        for node in nodes(ast.arguments):
            self.assertEqual((node.vararg, node.kwarg, node.kwonlyargs, node.posonlyargs), (None, None, [], []))

    def test_comprehensions_are_plain(self):
        for node in nodes(ast.ListComp):
            self.assertEqual(len(node.generators), 1)
            self.assertLessEqual(len(node.generators[0].ifs), 1)

    def test_no_annotations_and_no_keywords(self):
        for node in nodes(ast.FunctionDef):
            self.assertIsNone(node.returns)
        for node in nodes(ast.arg):
            self.assertIsNone(node.annotation)
        self.assertEqual(nodes(ast.keyword), [])

    def test_texts(self):
        for node in nodes(ast.Constant):
            if isinstance(node.value, str):
                self.assertNotIn("%", node.value)
        for path, tree in trees():
            self.assertNotIn("\\", path.read_text("utf-8"))

    def test_what_is_walked_is_walked_on_the_spot(self):
        at_once = [node.iter for node in nodes((ast.For, ast.comprehension))]
        at_once += [node.args[0] for node in nodes(ast.Call) if called(node) in WALKERS and node.args]
        places = {(node.lineno, node.col_offset) for node in at_once}
        for node in nodes(ast.Call):
            if called(node) in WALKED:
                self.assertIn((node.lineno, node.col_offset), places)

    def test_what_a_loop_walks_is_not_changed_in_it(self):
        for loop in nodes(ast.For):
            walked = {ast.unparse(node) for node in ast.walk(loop.iter)}
            for node in [node for part in loop.body for node in ast.walk(part)]:
                if isinstance(node, ast.Call) and called(node) in CHANGING:
                    self.assertNotIn(ast.unparse(node.func.value), walked)
                if isinstance(node, (ast.Attribute, ast.Subscript)) and isinstance(node.ctx, ast.Store):
                    self.assertNotIn(ast.unparse(node.value), walked - {"self"})

    def test_is_stands_beside_none_and_truths(self):
        for node in nodes(ast.Compare):
            if any(isinstance(sign, (ast.Is, ast.IsNot)) for sign in node.ops):
                self.assertIsInstance(node.comparators[0], ast.Constant)

    def test_imports_are_of_the_package(self):
        for node in nodes(ast.ImportFrom):
            self.assertTrue(node.level == 0 and node.module.startswith("actioncaches."))

    def test_the_top_of_a_file(self):
        for path, tree in trees():
            for place, node in enumerate(tree.body):
                docstring = place == 0 and isinstance(node, ast.Expr)
                self.assertTrue(docstring or isinstance(node, (ast.ImportFrom, ast.FunctionDef, ast.ClassDef,
                                                               ast.Assign)))
                if isinstance(node, ast.Assign):
                    ast.literal_eval(node.value)
                    inner = [part for part in ast.walk(node.value) if part is not node.value]
                    self.assertFalse(any(isinstance(part, (ast.List, ast.Dict, ast.Set)) for part in inner))

    def test_what_stands_at_the_top_is_not_changed(self):
        tops = {target.id for path, tree in trees() for node in tree.body if isinstance(node, ast.Assign)
                for target in node.targets}
        for node in nodes(ast.Attribute):
            if node.attr in CHANGING and isinstance(node.value, ast.Name):
                self.assertNotIn(node.value.id, tops)
        for node in nodes(ast.Subscript):
            if isinstance(node.ctx, ast.Store):
                self.assertFalse(isinstance(node.value, ast.Name) and node.value.id in tops)


class Names(unittest.TestCase):
    def test_plain_and_not_pythons_own(self):
        for name in names_given() + sorted(values()):
            self.assertTrue(name in DOUBLE or re.match(r"[A-Za-z][A-Za-z0-9_]*\Z", name), name)
            self.assertNotIn(name, NOT_USED)
        for name in names_given():
            self.assertTrue(name in DOUBLE or not hasattr(builtins, name), name)

    def test_only_those_of_pythons_own_that_are_allowed(self):
        for node in nodes(ast.Name):
            self.assertTrue(node.id in OWN_NAMES or not hasattr(builtins, node.id), node.id)

    def test_only_own_attributes_and_allowed_methods(self):
        for node in nodes(ast.Attribute):
            self.assertIn(node.attr, OWN_METHODS | methods() | values())
        self.assertEqual(methods() & values(), set())
        self.assertEqual(values() & NOT_VALUES, set())
        self.assertEqual(values() & PYTHONS - FREE_VALUES, set())
        self.assertEqual(methods() & PYTHONS - FREE_METHODS - DOUBLE, set())
        self.assertEqual((methods() | values()) & OWN_NAMES, set())

    def test_no_method_stands_twice_and_no_class_holds_a_value(self):
        for node in nodes(ast.ClassDef):
            parts = [part for part in node.body if not isinstance(part, ast.Expr)]
            self.assertTrue(all(isinstance(part, ast.FunctionDef) for part in parts))
            self.assertEqual(len(parts), len({part.name for part in parts}))
            self.assertLessEqual(len(node.bases), 1)

    def test_bound_once_at_the_top(self):
        for path, tree in trees():
            bound = [node.name for node in tree.body if isinstance(node, (ast.FunctionDef, ast.ClassDef))]
            bound += [target.id for node in tree.body if isinstance(node, ast.Assign) for target in node.targets]
            self.assertEqual(len(bound), len(set(bound)))


if __name__ == "__main__":
    unittest.main()
