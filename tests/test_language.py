"""The package's files keep to the small part of Python that is allowed there.

This looks at what can be told from the form alone: files, signs, sizes, kinds
of statements and expressions, and names.
"""

import ast
import builtins
import pathlib
import re
import unittest

PACKAGE = pathlib.Path(__file__).resolve().parent.parent / "pagenook"

OWN_NAMES_OF_PYTHON = set(
    "len range enumerate zip min max sum abs sorted reversed int str bool list tuple dict set frozenset isinstance "
    "ord repr any all divmod Exception ValueError TypeError KeyError IndexError LookupError ZeroDivisionError "
    "ArithmeticError OverflowError RuntimeError NotImplementedError AttributeError StopIteration".split()
)
METHODS_OF_PYTHON = set(
    "append clear copy count endswith extend find get index insert isalnum isalpha isdigit islower isspace isupper "
    "items join keys ljust lower lstrip partition pop remove replace reverse rfind rjust rpartition rsplit rstrip "
    "setdefault split splitlines startswith strip update upper values zfill bit_length".split()
)
DUNDERS = {"__init__", "__eq__", "__repr__", "__str__", "__len__"}
WORDS_NOWHERE = (
    r"\b(type|typing|typing_extensions|enum|Enum|IntEnum|StrEnum|Flag|IntFlag|Generic|Protocol|ABC|ABCMeta|"
    r"namedtuple|NamedTuple|TypedDict|TYPE_CHECKING|abstractmethod)\b|dataclass|overload|contextmanager"
)
NODES = (
    ast.Module, ast.ImportFrom, ast.alias, ast.FunctionDef, ast.arguments, ast.arg, ast.Lambda, ast.ClassDef,
    ast.Assign, ast.AugAssign, ast.If, ast.While, ast.For, ast.Return, ast.Break, ast.Continue, ast.Pass, ast.Raise,
    ast.Try, ast.ExceptHandler, ast.Expr, ast.Constant, ast.List, ast.Tuple, ast.Dict, ast.Set, ast.BinOp, ast.BoolOp,
    ast.UnaryOp, ast.Compare, ast.IfExp, ast.Call, ast.keyword, ast.Attribute, ast.Subscript, ast.Slice, ast.Name,
    ast.ListComp, ast.comprehension, ast.JoinedStr, ast.FormattedValue, ast.operator, ast.unaryop, ast.boolop,
    ast.cmpop, ast.expr_context,
)


def package_files():
    return sorted(path for path in PACKAGE.rglob("*") if path.is_file() and "__pycache__" not in path.parts)


def nodes_of(path):
    return list(ast.walk(ast.parse(path.read_text(encoding="utf-8"))))


def nodes_by_kind(path, kinds):
    return [node for node in nodes_of(path) if isinstance(node, kinds)]


def bound_names(path):
    names = [node.id for node in nodes_by_kind(path, ast.Name) if isinstance(node.ctx, ast.Store)]
    names += [node.arg for node in nodes_by_kind(path, ast.arg)]
    names += [node.name for node in nodes_by_kind(path, (ast.FunctionDef, ast.ClassDef))]
    names += [node.name for node in nodes_by_kind(path, ast.ExceptHandler) if node.name]
    return names


class Language(unittest.TestCase):
    def check_each(self, faults_of):
        for path in package_files():
            with self.subTest(file=path.name):
                self.assertEqual(faults_of(path), [])

    def test_the_modules_are_there(self):
        names = [path.name for path in package_files()]
        for name in ["__init__.py", "errors.py", "near.py", "words.py"]:
            self.assertIn(name, names)

    def test_files(self):
        for path in package_files():
            self.assertRegex(path.name, r"\A([a-z][a-z0-9_]*|__init__|__main__)\.py\Z")

    def test_signs_and_sizes(self):
        def faults_of(path):
            lines = path.read_text(encoding="utf-8").split("\n")
            faults = [line for line in lines if len(line) > 120 or not re.fullmatch("[ -~]*", line)]
            defs = nodes_by_kind(path, ast.FunctionDef)
            faults += [node.name for node in defs if node.end_lineno - node.lineno + 1 > 40]
            return faults + (["too long"] if len(lines) > 400 else [])

        self.check_each(faults_of)

    def test_words_that_stand_nowhere(self):
        self.check_each(lambda path: [m.group() for m in re.finditer(WORDS_NOWHERE, path.read_text(encoding="utf-8"))])

    def test_statements_and_expressions(self):
        def is_fault(node):
            if isinstance(node, (ast.Div, ast.MatMult)) or not isinstance(node, NODES):
                return True
            if isinstance(node, (ast.For, ast.While)):
                return bool(node.orelse)
            if isinstance(node, ast.Try):
                return bool(node.finalbody) or any(handler.type is None for handler in node.handlers)
            if isinstance(node, ast.Assign):
                return len(node.targets) != 1
            if isinstance(node, ast.ListComp):
                return len(node.generators) != 1 or len(node.generators[0].ifs) > 1
            if isinstance(node, (ast.FunctionDef, ast.ClassDef)):
                return bool(node.decorator_list)
            if isinstance(node, ast.arguments):
                return bool(node.vararg or node.kwarg or node.kwonlyargs or node.posonlyargs)
            if isinstance(node, ast.Constant):
                return isinstance(node.value, (float, bytes, complex)) or "%" in str(node.value)
            return False

        self.check_each(lambda path: [ast.dump(node) for node in nodes_of(path) if is_fault(node)])

    def test_imports(self):
        def faults_of(path):
            rows = nodes_by_kind(path, ast.ImportFrom)
            return [
                row.module for row in rows
                if row.level or not row.module.startswith("pagenook.") or any(a.name == "*" for a in row.names)
            ]

        self.check_each(faults_of)

    def test_names_of_python(self):
        def faults_of(path):
            used = [node.id for node in nodes_by_kind(path, ast.Name)]
            return [name for name in used if hasattr(builtins, name) and name not in OWN_NAMES_OF_PYTHON]

        self.check_each(faults_of)

    def test_names_of_its_own(self):
        def faults_of(path):
            names = [name for name in bound_names(path) if name not in DUNDERS]
            return [name for name in names if hasattr(builtins, name) or not re.fullmatch("[A-Za-z][A-Za-z0-9_]*", name)]

        self.check_each(faults_of)

    def test_methods(self):
        own = {name for path in package_files() for name in bound_names(path)}

        def faults_of(path):
            called = [node.func for node in nodes_by_kind(path, ast.Call)]
            methods = [func.attr for func in called if isinstance(func, ast.Attribute)]
            return [name for name in methods if name not in METHODS_OF_PYTHON and name not in own]

        self.check_each(faults_of)


if __name__ == "__main__":
    unittest.main()
