"""The rules of ../shared/LANGUAGE.md that can be read off the package's files."""

import ast
import builtins
import pathlib
import re
import unittest

import surehopes

PACKAGE = pathlib.Path(surehopes.__file__).parent
FILES = sorted(path for path in PACKAGE.rglob("*") if path.is_file() and "__pycache__" not in path.parts)

PYTHONS_OWN = set(
    "len range enumerate zip min max sum abs sorted reversed int str bool list tuple dict set frozenset isinstance "
    "ord repr any all divmod Exception ValueError TypeError KeyError IndexError LookupError ZeroDivisionError "
    "ArithmeticError OverflowError RuntimeError NotImplementedError AttributeError StopIteration".split()
)
PYTHONS_METHODS = set(
    "append clear copy count endswith extend find get index insert isalnum isalpha isdigit islower isspace isupper "
    "items join keys ljust lower lstrip partition pop remove replace reverse rfind rjust rpartition rsplit rstrip "
    "setdefault split splitlines startswith strip update upper values zfill bit_length".split()
)
PYTHONS_ATTRIBUTES = {name for kind in (str, int, list, dict, set, bytes, tuple) for name in dir(kind)}
WORDS_NOWHERE = (
    r"\b(type|typing|typing_extensions|enum|Enum|IntEnum|StrEnum|Flag|IntFlag|Generic|Protocol|ABC|ABCMeta|namedtuple"
    r"|NamedTuple|TypedDict|TYPE_CHECKING|abstractmethod)\b|dataclass|overload|contextmanager"
)
ALLOWED = (
    ast.Module, ast.ImportFrom, ast.alias, ast.FunctionDef, ast.ClassDef, ast.arguments, ast.arg, ast.Lambda,
    ast.Assign, ast.AugAssign, ast.If, ast.While, ast.For, ast.Return, ast.Break, ast.Continue, ast.Pass, ast.Raise,
    ast.Try, ast.ExceptHandler, ast.Expr, ast.Constant, ast.List, ast.Tuple, ast.Dict, ast.Set, ast.BinOp,
    ast.UnaryOp, ast.BoolOp, ast.Compare, ast.IfExp, ast.Call, ast.keyword, ast.Attribute, ast.Subscript, ast.Slice,
    ast.ListComp, ast.comprehension, ast.JoinedStr, ast.FormattedValue, ast.Name, ast.expr_context, ast.operator,
    ast.unaryop, ast.boolop, ast.cmpop,
)
REFUSED = (ast.Div, ast.MatMult)


def tree_of(path):
    return ast.parse(path.read_text(encoding="utf-8"))


def nodes(kind):
    return [(path.name, node) for path in FILES for node in ast.walk(tree_of(path)) if isinstance(node, kind)]


def bound_names(tree):
    names = set()
    for node in ast.walk(tree):
        if isinstance(node, (ast.FunctionDef, ast.ClassDef)):
            names.add(node.name)
        elif isinstance(node, ast.arg):
            names.add(node.arg)
        elif isinstance(node, ast.alias):
            names.add(node.asname or node.name)
        elif isinstance(node, ast.Name) and isinstance(node.ctx, ast.Store):
            names.add(node.id)
        elif isinstance(node, ast.ExceptHandler) and node.name:
            names.add(node.name)
    return names


class Files(unittest.TestCase):
    def test_names_of_files(self):
        self.assertIn("__init__.py", [path.name for path in FILES])
        for path in FILES:
            self.assertRegex(path.name, r"^(__init__|__main__|[a-z][a-z0-9_]*)\.py$")

    def test_signs_and_sizes(self):
        for path in FILES:
            with self.subTest(file=path.name):
                text = path.read_bytes().decode("utf-8")
                rows = text.split("\n")
                self.assertLessEqual(len(rows) - 1, 400)
                self.assertLessEqual(max(len(row) for row in rows), 120)
                self.assertRegex(text, r"\A[ -~\n]*\Z")
                self.assertIsNone(re.search(WORDS_NOWHERE, text))

    def test_length_of_functions(self):
        for file, node in nodes(ast.FunctionDef):
            with self.subTest(file=file, name=node.name):
                self.assertLessEqual(node.end_lineno - node.lineno + 1, 40)


class Forms(unittest.TestCase):
    def test_only_forms_that_are_allowed(self):
        for file, node in nodes(ast.AST):
            with self.subTest(file=file, line=getattr(node, "lineno", 0), form=node.__class__.__name__):
                self.assertIsInstance(node, ALLOWED)
                self.assertNotIsInstance(node, REFUSED)

    def test_plain_functions(self):
        for file, node in nodes(ast.FunctionDef):
            with self.subTest(file=file, name=node.name):
                given = node.args
                self.assertFalse(given.vararg or given.kwarg or given.kwonlyargs or given.posonlyargs)
                self.assertEqual(node.decorator_list, [])

    def test_imports(self):
        for file, node in nodes(ast.ImportFrom):
            with self.subTest(file=file, module=node.module):
                self.assertEqual(node.level, 0)
                self.assertRegex(node.module, r"^surehopes\.")
                self.assertNotIn("*", [alias.name for alias in node.names])

    def test_no_else_behind_a_loop(self):
        for file, node in nodes((ast.For, ast.While)):
            with self.subTest(file=file, line=node.lineno):
                self.assertEqual(node.orelse, [])

    def test_no_power_of_a_name(self):
        for file, node in nodes(ast.BinOp):
            if isinstance(node.op, ast.Pow):
                with self.subTest(file=file, line=node.lineno):
                    self.assertIsInstance(node.right, ast.Constant)

    def test_is_stands_beside_none_true_and_false_alone(self):
        for file, node in nodes(ast.Compare):
            for sign, right in zip(node.ops, node.comparators):
                if isinstance(sign, (ast.Is, ast.IsNot)):
                    with self.subTest(file=file, line=node.lineno):
                        self.assertIsInstance(right, ast.Constant)
                        self.assertIn(right.value, (None, True, False))


class Names(unittest.TestCase):
    def test_plain_words(self):
        for path in FILES:
            for name in bound_names(tree_of(path)):
                with self.subTest(file=path.name, name=name):
                    self.assertRegex(name, r"^([A-Za-z][A-Za-z0-9_]*|__(init|eq|repr|str|len)__)$")
                    self.assertNotIn(name, vars(builtins))

    def test_every_name_read_is_known(self):
        for path in FILES:
            tree = tree_of(path)
            known = bound_names(tree) | PYTHONS_OWN
            for node in ast.walk(tree):
                if isinstance(node, ast.Name):
                    with self.subTest(file=path.name, line=node.lineno):
                        self.assertIn(node.id, known)

    def test_methods(self):
        own = {node.name for file, node in nodes(ast.FunctionDef)}
        for file, node in nodes(ast.Call):
            if isinstance(node.func, ast.Attribute):
                with self.subTest(file=file, line=node.lineno):
                    self.assertIn(node.func.attr, own | PYTHONS_METHODS)

    def test_no_name_is_a_method_and_a_value(self):
        methods = {each.name for file, node in nodes(ast.ClassDef) for each in node.body if hasattr(each, "name")}
        values = {node.attr for file, node in nodes(ast.Attribute) if isinstance(node.ctx, ast.Store)}
        self.assertEqual(methods & values, set())
        self.assertEqual((methods | values) & PYTHONS_ATTRIBUTES, {"__init__"})

    def test_no_local_is_called_like_a_class_or_an_import(self):
        for path in FILES:
            tree = tree_of(path)
            taken = {node.name for node in ast.walk(tree) if isinstance(node, ast.ClassDef)}
            taken |= {node.name for node in ast.walk(tree) if isinstance(node, ast.alias)}
            inner = [node for node in ast.walk(tree) if isinstance(node, ast.FunctionDef)]
            for function in inner:
                with self.subTest(file=path.name, name=function.name):
                    self.assertEqual((bound_names(function) - {function.name}) & taken, set())


if __name__ == "__main__":
    unittest.main()
