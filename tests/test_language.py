"""That the package keeps to the small part of Python it is written in, as far as a walk over its trees can tell."""

import ast
import builtins
import pathlib
import re
import unittest

PACKAGE = pathlib.Path(__file__).resolve().parent.parent / "strictfilm"

NODES = set("""
    Module Expr Constant ImportFrom alias FunctionDef arguments arg ClassDef Assign AugAssign If While For Return
    Break Continue Pass Raise Try ExceptHandler Name Attribute Subscript Slice Call keyword List Tuple Dict BinOp
    UnaryOp BoolOp Compare IfExp ListComp comprehension Load Store Lambda JoinedStr FormattedValue
    Add Sub Mult FloorDiv Mod Pow BitAnd BitOr BitXor Invert LShift RShift USub Not And Or
    Eq NotEq Lt LtE Gt GtE Is IsNot In NotIn
""".split())
BUILTINS = set("""
    len range enumerate zip min max sum abs sorted reversed int str bool list tuple dict set frozenset isinstance ord
    repr any all divmod Exception ValueError TypeError KeyError IndexError LookupError ZeroDivisionError
    ArithmeticError OverflowError RuntimeError NotImplementedError AttributeError StopIteration
""".split())
METHODS = set("""
    append clear copy count endswith extend find get index insert isalnum isalpha isdigit islower isspace isupper items
    join keys ljust lower lstrip partition pop remove replace reverse rfind rjust rpartition rsplit rstrip setdefault
    split splitlines startswith strip update upper values zfill bit_length
""".split())
UNUSED_NAMES = set("""
    register mro elements open input version_info with_traceback add_note format format_map chr id type super getattr
    setattr hasattr delattr dir vars eval exec compile globals locals os sys gc
""".split())
UNUSED_WORDS = re.compile(
    r"\b(type|typing|typing_extensions|enum|Enum|IntEnum|StrEnum|Flag|IntFlag|Generic|Protocol|ABC|ABCMeta|namedtuple"
    r"|NamedTuple|TypedDict|TYPE_CHECKING|abstractmethod)\b|dataclass|overload|contextmanager")


def trees():
    return {path: ast.parse(path.read_text()) for path in sorted(PACKAGE.glob("*.py"))}


def nodes_of(kind):
    return [(path, node) for path, tree in trees().items() for node in ast.walk(tree) if isinstance(node, kind)]


def bound_names(tree):
    names = [node.id for node in ast.walk(tree) if isinstance(node, ast.Name) and isinstance(node.ctx, ast.Store)]
    names += [node.arg for node in ast.walk(tree) if isinstance(node, ast.arg)]
    return names + [node.name for node in ast.walk(tree) if isinstance(node, (ast.FunctionDef, ast.ClassDef))]


def modules_drawn_from(tree):
    return [node.module for node in ast.walk(tree) if isinstance(node, ast.ImportFrom)]


class LanguageTest(unittest.TestCase):

    def test_only_plain_files(self):
        for path in PACKAGE.iterdir():
            if path.name != "__pycache__":
                self.assertRegex(path.name, r"^[a-z][a-z0-9_]*\.py$|^__init__\.py$")

    def test_signs_and_sizes(self):
        for path in trees():
            text = path.read_text()
            self.assertRegex(text, r"\A[ -~\n]*\Z", path.name)
            self.assertIsNone(UNUSED_WORDS.search(text), path.name)
            rows = text.split("\n")
            self.assertLessEqual(len(rows), 400, path.name)
            self.assertLessEqual(max(len(row) for row in rows), 120, path.name)
        for path, node in nodes_of(ast.FunctionDef):
            self.assertLessEqual(node.end_lineno - node.lineno + 1, 40, f"{path.name} {node.name}")

    def test_statements_and_expressions(self):
        for path, node in nodes_of(ast.AST):
            self.assertIn(type(node).__name__, NODES, f"{path.name} {getattr(node, 'lineno', '')}")

    def test_plain_values(self):
        for path, node in nodes_of(ast.Constant):
            self.assertIn(type(node.value), (int, str, bool, type(None)), f"{path.name} {node.lineno}")

    def test_plain_functions(self):
        for path, node in nodes_of(ast.FunctionDef):
            given = node.args
            self.assertFalse(given.vararg or given.kwarg or given.kwonlyargs or node.decorator_list, path.name)

    def test_one_target(self):
        for path, node in nodes_of(ast.Assign):
            self.assertEqual(len(node.targets), 1, f"{path.name} {node.lineno}")

    def test_loops_without_else(self):
        for path, node in nodes_of((ast.For, ast.While)):
            self.assertEqual(node.orelse, [], f"{path.name} {node.lineno}")

    def test_names(self):
        for path, tree in trees().items():
            bound = bound_names(tree)
            for name in bound:
                if name == "__init__":
                    continue
                self.assertRegex(name, r"^[A-Za-z][A-Za-z0-9_]*$", path.name)
                self.assertFalse(hasattr(builtins, name), f"{path.name} {name}")
                self.assertNotIn(name, UNUSED_NAMES, path.name)
            drawn = [part.name for node in ast.walk(tree) if isinstance(node, ast.ImportFrom) for part in node.names]
            self.assertFalse(set(drawn) & set(bound), path.name)
            for node in ast.walk(tree):
                if isinstance(node, ast.Name):
                    self.assertIn(node.id, BUILTINS | set(bound) | set(drawn), f"{path.name} {node.lineno}")

    def test_methods(self):
        own = {node.name for path, node in nodes_of(ast.FunctionDef)}
        for path, node in nodes_of(ast.Call):
            if isinstance(node.func, ast.Attribute):
                self.assertIn(node.func.attr, METHODS | own, f"{path.name} {node.lineno}")

    def test_values_of_objects(self):
        methods = {node.name for path, tree in nodes_of(ast.ClassDef) for node in tree.body
                   if isinstance(node, ast.FunctionDef)}
        values = {node.attr for path, node in nodes_of(ast.Attribute) if isinstance(node.ctx, ast.Store)}
        self.assertEqual(methods & values, set())
        for name in (methods | values) - {"__init__"}:
            for kind in (str, int, list, dict, set, bytes):
                self.assertFalse(hasattr(kind, name), name)

    def test_names_bound_once_at_the_top(self):
        for path, tree in trees().items():
            names = [node.targets[0].id for node in tree.body if isinstance(node, ast.Assign)]
            names += [node.name for node in tree.body if isinstance(node, (ast.FunctionDef, ast.ClassDef))]
            self.assertEqual(len(names), len(set(names)), path.name)

    def test_imports(self):
        places = {f"strictfilm.{path.stem}": tree for path, tree in trees().items()}
        for place, tree in places.items():
            for node in ast.walk(tree):
                if isinstance(node, ast.ImportFrom):
                    self.assertIn(node.module, places, place)
                    self.assertEqual(node.level, 0, place)
                    defined = bound_names(ast.Module(body=places[node.module].body, type_ignores=[]))
                    for part in node.names:
                        self.assertIn(part.name, defined, place)
                        self.assertIsNone(part.asname, place)

    def test_no_files_draw_from_one_another(self):
        left = {f"strictfilm.{path.stem}": set(modules_drawn_from(tree)) for path, tree in trees().items()}
        while left:
            free = [place for place, drawn in left.items() if not drawn & set(left)]
            self.assertTrue(free, f"a ring among {sorted(left)}")
            left = {place: drawn for place, drawn in left.items() if place not in free}

    def test_powers_have_a_written_exponent(self):
        for path, node in nodes_of(ast.BinOp):
            if isinstance(node.op, ast.Pow):
                self.assertIsInstance(node.right, ast.Constant, f"{path.name} {node.lineno}")

    def test_is_stands_beside_none_true_and_false(self):
        for path, node in nodes_of(ast.Compare):
            if any(isinstance(op, (ast.Is, ast.IsNot)) for op in node.ops):
                self.assertIsInstance(node.comparators[0], ast.Constant, f"{path.name} {node.lineno}")

    def test_errors_taken_are_the_program_s_own(self):
        own = {node.name for path, node in nodes_of(ast.ClassDef)}
        for path, node in nodes_of(ast.ExceptHandler):
            self.assertIn(node.type.id, own, f"{path.name} {node.lineno}")
