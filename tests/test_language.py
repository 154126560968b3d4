"""Holds the package's files to those rules of its small part of Python that a walk over the code can see."""

import ast
import builtins
import pathlib
import re
import unittest

PACKAGE = pathlib.Path(__file__).resolve().parent.parent / "narrowtokens"

STATEMENTS = (
    ast.Module, ast.FunctionDef, ast.ClassDef, ast.ImportFrom, ast.Assign, ast.AugAssign, ast.If, ast.While, ast.For,
    ast.Return, ast.Break, ast.Continue, ast.Pass, ast.Raise, ast.Try, ast.ExceptHandler, ast.Expr)
EXPRESSIONS = (
    ast.Constant, ast.List, ast.Tuple, ast.Dict, ast.BinOp, ast.UnaryOp, ast.BoolOp, ast.Compare, ast.IfExp, ast.Call,
    ast.Attribute, ast.Subscript, ast.Slice, ast.ListComp, ast.comprehension, ast.JoinedStr, ast.FormattedValue,
    ast.Name, ast.Lambda)
PARTS = (
    ast.arguments, ast.arg, ast.alias, ast.keyword, ast.operator, ast.unaryop, ast.boolop, ast.cmpop, ast.expr_context)
OUT = (ast.Div, ast.MatMult)

OWN_NAMES = set(
    "len range enumerate zip min max sum abs sorted reversed int str bool list tuple dict set frozenset isinstance ord "
    "repr any all divmod Exception ValueError TypeError KeyError IndexError LookupError ZeroDivisionError "
    "ArithmeticError OverflowError RuntimeError NotImplementedError AttributeError StopIteration".split())
OWN_METHODS = set(
    "append clear copy count endswith extend find get index insert isalnum isalpha isdigit islower isspace isupper "
    "items join keys ljust lower lstrip partition pop remove replace reverse rfind rjust rpartition rsplit rstrip "
    "setdefault split splitlines startswith strip update upper values zfill bit_length".split())
OUT_VALUES = set(
    "items keys values pop update append clear extend insert remove reverse setdefault sort args encode format".split())
TWO_UNDERSCORES = ("__init__", "__eq__", "__repr__", "__str__", "__len__")
WORDS = re.compile(
    r"\b(type|typing|typing_extensions|enum|Enum|IntEnum|StrEnum|Flag|IntFlag|Generic|Protocol|ABC|ABCMeta|namedtuple|"
    r"NamedTuple|TypedDict|TYPE_CHECKING|abstractmethod)\b|dataclass|overload|contextmanager")
PLAIN_NAME = re.compile(r"[A-Za-z][A-Za-z0-9_]*")


def files():
    return sorted(path for path in PACKAGE.rglob("*.py"))


def nodes(kinds):
    for path in files():
        for node in ast.walk(ast.parse(path.read_text("utf-8"))):
            if isinstance(node, kinds):
                yield path.name, node


def bound_names(tree):
    for node in ast.walk(tree):
        if isinstance(node, ast.arg):
            yield node.arg
        elif isinstance(node, ast.Name) and isinstance(node.ctx, ast.Store):
            yield node.id
        elif isinstance(node, (ast.FunctionDef, ast.ClassDef)):
            yield node.name
        elif isinstance(node, ast.alias):
            yield node.asname or node.name


class Language(unittest.TestCase):
    def test_only_plain_files(self):
        for path in PACKAGE.rglob("*"):
            if "__pycache__" not in path.parts:
                self.assertTrue(path.is_file() and re.fullmatch(r"[a-z0-9_]+\.py", path.name), path)
        self.assertIn("tokens.py", [path.name for path in files()])

    def test_sizes_and_signs(self):
        for path in files():
            text = path.read_text("utf-8")
            self.assertIsNone(re.search(r"[^ -~\n]", text), path)
            self.assertIsNone(WORDS.search(text), path)
            self.assertLessEqual(len(text.splitlines()), 400, path)
            self.assertLessEqual(max(len(line) for line in text.splitlines()), 120, path)
        for name, node in nodes(ast.FunctionDef):
            self.assertLessEqual(node.end_lineno - node.lineno + 1, 40, (name, node.name))

    def test_only_the_listed_forms(self):
        for name, node in nodes(ast.AST):
            self.assertIsInstance(node, STATEMENTS + EXPRESSIONS + PARTS, name)
            self.assertNotIsInstance(node, OUT, name)

    def test_forms_more_closely(self):
        for name, node in nodes((ast.For, ast.While, ast.Assign, ast.FunctionDef, ast.ClassDef, ast.Constant)):
            if isinstance(node, (ast.For, ast.While)):
                self.assertEqual(node.orelse, [], name)
            elif isinstance(node, ast.Assign):
                self.assertEqual(len(node.targets), 1, name)
            elif isinstance(node, (ast.FunctionDef, ast.ClassDef)):
                self.assertEqual(node.decorator_list, [], name)
            else:
                self.assertIn(type(node.value), (int, str, bool, type(None)), name)
        for name, node in nodes(ast.arguments):
            self.assertIsNone(node.vararg or node.kwarg, name)
            self.assertEqual(node.kwonlyargs + node.posonlyargs, [], name)
        for name, node in nodes(ast.BinOp):
            if isinstance(node.op, ast.Pow):
                self.assertIsInstance(node.right, ast.Constant, name)

    def test_a_row_by_itself_is_a_call(self):
        docstrings = [ast.parse(path.read_text("utf-8")).body[0].value.value for path in files()]
        for name, node in nodes(ast.Expr):
            if not isinstance(node.value, ast.Call):
                self.assertIn(node.value.value, docstrings, name)

    def test_imports_of_the_packages_own_alone(self):
        for name, node in nodes(ast.ImportFrom):
            self.assertEqual(node.level, 0, name)
            source = PACKAGE.parent / (node.module.replace(".", "/") + ".py")
            self.assertTrue(source.is_file(), (name, node.module))
            body = ast.parse(source.read_text("utf-8")).body
            defined = [top.name for top in body if isinstance(top, (ast.FunctionDef, ast.ClassDef))]
            defined += [top.targets[0].id for top in body if isinstance(top, ast.Assign)]
            for alias in node.names:
                self.assertIn(alias.name, defined, (name, node.module))

    def test_names(self):
        for path in files():
            tree = ast.parse(path.read_text("utf-8"))
            bound = set(bound_names(tree))
            for name in bound - set(TWO_UNDERSCORES):
                self.assertTrue(PLAIN_NAME.fullmatch(name), (path.name, name))
                self.assertFalse(hasattr(builtins, name), (path.name, name))
            read = {node.id for node in ast.walk(tree) if isinstance(node, ast.Name)}
            self.assertLessEqual(read, bound | OWN_NAMES, path.name)

    def test_a_name_of_a_files_top_is_bound_once(self):
        for path in files():
            top = []
            for node in ast.parse(path.read_text("utf-8")).body:
                top += list(bound_names(node)) if isinstance(node, (ast.Assign, ast.ImportFrom)) else []
                top += [node.name] if isinstance(node, (ast.FunctionDef, ast.ClassDef)) else []
            self.assertEqual(len(top), len(set(top)), path.name)

    def test_parameters_and_locals_are_not_called_like_classes_or_imports(self):
        for path in files():
            tree = ast.parse(path.read_text("utf-8"))
            taken = {node.name for node in tree.body if isinstance(node, ast.ClassDef)}
            taken |= {alias.name for node in tree.body if isinstance(node, ast.ImportFrom) for alias in node.names}
            for function in ast.walk(tree):
                if isinstance(function, ast.FunctionDef):
                    inner = {name for part in function.body + [function.args] for name in bound_names(part)}
                    self.assertEqual(inner & taken, set(), (path.name, function.name))

    def test_no_two_files_draw_from_one_another(self):
        drawn = {path.stem: set() for path in files()}
        for name, node in nodes(ast.ImportFrom):
            drawn[name.removesuffix(".py")].add(node.module.split(".")[-1])
        while drawn:
            free = [name for name in drawn if not drawn[name] & set(drawn)]
            self.assertNotEqual(free, [], drawn)
            drawn = {name: drawn[name] for name in drawn if name not in free}

    def test_is_stands_beside_none_true_and_false_alone(self):
        for name, node in nodes(ast.Compare):
            for sign, beside in zip(node.ops, node.comparators):
                if isinstance(sign, (ast.Is, ast.IsNot)):
                    self.assertIsInstance(beside, ast.Constant, name)
                    self.assertIn(beside.value, (None, True, False), name)

    def test_what_stands_at_a_files_top_cannot_be_changed(self):
        for path in files():
            for node in ast.parse(path.read_text("utf-8")).body:
                if isinstance(node, ast.Assign):
                    value = ast.literal_eval(node.value)
                    self.assertIsInstance(hash(value), int, path.name)

    def test_error_classes_stand_under_listed_ones(self):
        for name, node in nodes(ast.ClassDef):
            self.assertLessEqual(len(node.bases), 1, name)
            for base in node.bases:
                self.assertIn(base.id, OWN_NAMES - {"StopIteration", "AttributeError"}, name)

    def test_no_keywords_and_no_percent_sign_in_texts(self):
        self.assertEqual([name for name, node in nodes(ast.keyword)], [])
        for name, node in nodes(ast.Constant):
            if isinstance(node.value, str):
                self.assertNotIn("%", node.value, name)

    def test_methods_and_values(self):
        methods = set()
        for name, node in nodes(ast.ClassDef):
            for method in node.body:
                self.assertIsInstance(method, (ast.FunctionDef, ast.Pass), name)
                methods |= {method.name} if isinstance(method, ast.FunctionDef) else set()
        values = {node.attr for name, node in nodes(ast.Attribute) if isinstance(node.ctx, ast.Store)}
        self.assertEqual(methods & values, set())
        self.assertEqual(values & OUT_VALUES, set())
        called = {node.func.attr for name, node in nodes(ast.Call) if isinstance(node.func, ast.Attribute)}
        self.assertLessEqual(called, methods | OWN_METHODS)


if __name__ == "__main__":
    unittest.main()
