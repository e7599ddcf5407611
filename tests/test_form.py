"""The package keeps to the small part of Python that it is to be written in, as far as a test can tell."""

import ast
import pathlib
import re
import unittest

PACKAGE = pathlib.Path(__file__).resolve().parent.parent / "scanlist"
FILES = sorted(path for path in PACKAGE.rglob("*") if "__pycache__" not in path.parts and path.is_file())
TREES = {path: ast.parse(path.read_text()) for path in FILES}

STATEMENTS = (
    ast.Module, ast.FunctionDef, ast.ClassDef, ast.ImportFrom, ast.Assign, ast.AugAssign, ast.If, ast.While, ast.For,
    ast.Return, ast.Break, ast.Continue, ast.Pass, ast.Raise, ast.Try, ast.ExceptHandler, ast.Expr,
)
EXPRESSIONS = (
    ast.Constant, ast.List, ast.Tuple, ast.Dict, ast.BinOp, ast.UnaryOp, ast.BoolOp, ast.Compare, ast.IfExp, ast.Call,
    ast.Attribute, ast.Subscript, ast.Slice, ast.ListComp, ast.comprehension, ast.Name, ast.JoinedStr,
    ast.FormattedValue, ast.arguments, ast.arg, ast.alias, ast.keyword, ast.Lambda,
    ast.operator, ast.unaryop, ast.boolop, ast.cmpop, ast.expr_context,
)
PLAIN_VALUES = (
    ast.Constant, ast.List, ast.Tuple, ast.Dict, ast.UnaryOp, ast.USub, ast.Name, ast.expr_context,
)
BUILTINS = set(
    "len range enumerate zip min max sum abs sorted reversed int str bool list tuple dict set frozenset isinstance ord "
    "repr any all divmod Exception ValueError TypeError KeyError IndexError LookupError ZeroDivisionError "
    "ArithmeticError OverflowError RuntimeError NotImplementedError AttributeError StopIteration".split()
)
METHODS = set(
    "append clear copy count endswith extend find get index insert isalnum isalpha isdigit islower isspace isupper "
    "items join keys ljust lower lstrip partition pop remove replace reverse rfind rjust rpartition rsplit rstrip "
    "setdefault split splitlines startswith strip update upper values zfill bit_length".split()
)
ABSENT_WORDS = re.compile(
    r"\b(type|typing|typing_extensions|enum|Enum|IntEnum|StrEnum|Flag|IntFlag|Generic|Protocol|ABC|ABCMeta|namedtuple"
    r"|NamedTuple|TypedDict|TYPE_CHECKING|abstractmethod)\b|dataclass|overload|contextmanager"
)


def nodes(kinds):
    return [(path, node) for path, tree in TREES.items() for node in ast.walk(tree) if isinstance(node, kinds)]


def is_docstring(node, tree):
    return node is tree.body[0] and isinstance(node.value, ast.Constant)


def bound_names(tree):
    names = set()
    for node in ast.walk(tree):
        if isinstance(node, (ast.FunctionDef, ast.ClassDef)):
            names.add(node.name)
        elif isinstance(node, ast.arg):
            names.add(node.arg)
        elif isinstance(node, ast.alias):
            names.add(node.name)
        elif isinstance(node, ast.ExceptHandler) and node.name:
            names.add(node.name)
        elif isinstance(node, ast.Name) and isinstance(node.ctx, ast.Store):
            names.add(node.id)
    return names


class Form(unittest.TestCase):
    def test_files(self):
        self.assertIn(PACKAGE / "__init__.py", FILES)
        for path in FILES:
            self.assertRegex(path.relative_to(PACKAGE).as_posix(), r"^[a-z][a-z0-9_]*\.py$|^__init__\.py$")

    def test_sizes_and_signs(self):
        for path in FILES:
            text = path.read_text()
            self.assertRegex(text, r"\A[ -~\n]*\Z", path)
            self.assertIsNone(ABSENT_WORDS.search(text), path)
            self.assertLessEqual(len(text.split("\n")), 399, path)
            self.assertLessEqual(max(map(len, text.split("\n"))), 120, path)
        for path, node in nodes(ast.FunctionDef):
            self.assertLessEqual(node.end_lineno - node.lineno + 1, 40, (path, node.name))

    def test_the_top_of_a_file(self):
        for path, tree in TREES.items():
            for node in tree.body:
                self.assertIsInstance(node, (ast.Expr, ast.ImportFrom, ast.Assign, ast.FunctionDef, ast.ClassDef))
                if isinstance(node, ast.Expr):
                    self.assertTrue(is_docstring(node, tree), path)
                if isinstance(node, ast.Assign):
                    self.assert_plain(node, tree)

    # Plain values, and functions that stand above.
    def assert_plain(self, node, tree):
        above = {part.name for part in tree.body if isinstance(part, ast.FunctionDef) and part.lineno < node.lineno}
        for part in ast.walk(node.value):
            self.assertIsInstance(part, PLAIN_VALUES, node.lineno)
            if isinstance(part, ast.Name):
                self.assertIn(part.id, above, node.lineno)
        for part in ast.iter_child_nodes(node.value):
            self.assertNotIsInstance(part, (ast.List, ast.Dict), node.lineno)

    def test_statements_and_expressions(self):
        for path, node in nodes(ast.AST):
            self.assertIsInstance(node, STATEMENTS + EXPRESSIONS, (path, getattr(node, "lineno", None)))
        for path, node in nodes(ast.Expr):
            allowed = isinstance(node.value, ast.Call) or is_docstring(node, TREES[path])
            self.assertTrue(allowed, (path, node.lineno))
        for path, node in nodes((ast.For, ast.While)):
            self.assertEqual([], node.orelse, (path, node.lineno))
        for path, node in nodes(ast.Assign):
            self.assertEqual(1, len(node.targets), (path, node.lineno))

    def test_functions_and_classes(self):
        for path, node in nodes((ast.FunctionDef, ast.ClassDef)):
            self.assertEqual([], node.decorator_list, (path, node.name))
        for path, node in nodes(ast.arguments):
            self.assertIsNone(node.vararg or node.kwarg, path)
            self.assertEqual([], node.kwonlyargs + node.posonlyargs, path)

    def test_imports(self):
        for path, node in nodes(ast.ImportFrom):
            self.assertEqual(0, node.level, path)
            self.assertRegex(node.module, r"^scanlist\.[a-z_]+$", path)
            defining = TREES[PACKAGE / (node.module.partition(".")[2] + ".py")]
            defined = {part.name for part in defining.body if isinstance(part, (ast.FunctionDef, ast.ClassDef))}
            for alias in node.names:
                self.assertIn(alias.name, defined, path)

    def test_no_file_draws_from_itself(self):
        drawn = {path.stem: set() for path in FILES}
        for path, node in nodes(ast.ImportFrom):
            drawn[path.stem].add(node.module.partition(".")[2])
        while drawn:
            free = [name for name, sources in drawn.items() if not sources & set(drawn)]
            self.assertNotEqual([], free, drawn)
            for name in free:
                drawn.pop(name)

    def test_what_is_called_like_a_class_or_an_import(self):
        for path, tree in TREES.items():
            taken = {part.name for part in ast.walk(tree) if isinstance(part, (ast.ClassDef, ast.alias))}
            for node in ast.walk(tree):
                if isinstance(node, ast.arg):
                    self.assertNotIn(node.arg, taken, path)
                if isinstance(node, ast.Name) and isinstance(node.ctx, ast.Store):
                    self.assertNotIn(node.id, taken, path)

    def test_a_name_of_the_top_is_bound_once_and_only_read(self):
        for path, tree in TREES.items():
            bound = [part.targets[0].id for part in tree.body if isinstance(part, ast.Assign)]
            bound += [part.name for part in tree.body if isinstance(part, (ast.FunctionDef, ast.ClassDef))]
            bound += [part.name for part in ast.walk(tree) if isinstance(part, ast.alias)]
            self.assertEqual(len(set(bound)), len(bound), path)
            for node in ast.walk(tree):
                if isinstance(node, (ast.Subscript, ast.Attribute)) and not isinstance(node.ctx, ast.Load):
                    self.assertNotIn(getattr(node.value, "id", None), bound, (path, node.lineno))

    def test_the_calls_stand_in_the_desk_alone(self):
        places = {(path.stem, node.name) for path, node in nodes((ast.FunctionDef, ast.ClassDef))}
        calls = {place for place in places if place[1] in ("check", "run")}
        self.assertEqual({("desk", "check"), ("desk", "run")}, calls)

    def test_is_stands_beside_none_true_and_false_alone(self):
        for path, node in nodes(ast.Compare):
            for operator, right in zip(node.ops, node.comparators):
                if isinstance(operator, (ast.Is, ast.IsNot)):
                    self.assertIsInstance(right, ast.Constant, (path, node.lineno))
                    self.assertIn(right.value, (None, True, False), (path, node.lineno))

    def test_values_of_objects(self):
        allowed = set("count index title find get join lower upper split strip copy add".split())
        own = {name for kind in (str, int, list, dict, set, bytes) for name in dir(kind)} - allowed
        methods = {node.name for path, node in nodes(ast.FunctionDef)}
        for path, node in nodes(ast.Attribute):
            if isinstance(node.ctx, ast.Store):
                self.assertNotIn(node.attr, own | methods, (path, node.lineno))

    def test_names(self):
        for path, tree in TREES.items():
            bound = bound_names(tree)
            for name in bound - {"__init__"}:
                self.assertRegex(name, r"^[A-Za-z][A-Za-z0-9_]*$", path)
                self.assertNotIn(name, dir(__builtins__) if not isinstance(__builtins__, dict) else __builtins__, path)
            for node in ast.walk(tree):
                if isinstance(node, ast.Name) and isinstance(node.ctx, ast.Load):
                    self.assertIn(node.id, bound | BUILTINS, (path, node.lineno))

    def test_methods(self):
        own = {node.name for path, node in nodes(ast.FunctionDef)}
        for path, node in nodes(ast.Call):
            if isinstance(node.func, ast.Attribute):
                self.assertIn(node.func.attr, METHODS | own, (path, node.lineno))


if __name__ == "__main__":
    unittest.main()
