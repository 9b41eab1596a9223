"""The package's files keep to the small part of Python that is allowed there.

This looks at what can be told from the form alone: files, signs, sizes, kinds
of statements and expressions, and names.
"""

import ast
import builtins
import pathlib
import re
import unittest

PACKAGE = pathlib.Path(__file__).resolve().parent.parent / "pagenook"

OWN_NAMES_OF_PYTHON = set(
    "len range enumerate zip min max sum abs sorted reversed int str bool list tuple dict set frozenset isinstance "
    "ord repr any all divmod Exception ValueError TypeError KeyError IndexError LookupError ZeroDivisionError "
    "ArithmeticError OverflowError RuntimeError NotImplementedError AttributeError StopIteration".split()
)
METHODS_OF_PYTHON = set(
    "append clear copy count endswith extend find get index insert isalnum isalpha isdigit islower isspace isupper "
    "items join keys ljust lower lstrip partition pop remove replace reverse rfind rjust rpartition rsplit rstrip "
    "setdefault split splitlines startswith strip update upper values zfill bit_length".split()
)
DUNDERS = {"__init__", "__eq__", "__repr__", "__str__", "__len__"}
WORDS_NOWHERE = (
    r"\b(type|typing|typing_extensions|enum|Enum|IntEnum|StrEnum|Flag|IntFlag|Generic|Protocol|ABC|ABCMeta|"
    r"namedtuple|NamedTuple|TypedDict|TYPE_CHECKING|abstractmethod)\b|dataclass|overload|contextmanager"
)
NODES = (
    ast.Module, ast.ImportFrom, ast.alias, ast.FunctionDef, ast.arguments, ast.arg, ast.Lambda, ast.ClassDef,
    ast.Assign, ast.AugAssign, ast.If, ast.While, ast.For, ast.Return, ast.Break, ast.Continue, ast.Pass, ast.Raise,
    ast.Try, ast.ExceptHandler, ast.Expr, ast.Constant, ast.List, ast.Tuple, ast.Dict, ast.Set, ast.BinOp, ast.BoolOp,
    ast.UnaryOp, ast.Compare, ast.IfExp, ast.Call, ast.keyword, ast.Attribute, ast.Subscript, ast.Slice, ast.Name,
    ast.ListComp, ast.comprehension, ast.JoinedStr, ast.FormattedValue, ast.operator, ast.unaryop, ast.boolop,
    ast.cmpop, ast.expr_context,
)


def package_files():
    return sorted(path for path in PACKAGE.rglob("*") if path.is_file() and "__pycache__" not in path.parts)


def nodes_of(path):
    return list(ast.walk(ast.parse(path.read_text(encoding="utf-8"))))


def nodes_by_kind(path, kinds):
    return [node for node in nodes_of(path) if isinstance(node, kinds)]


def tops_of(path):
    return ast.parse(path.read_text(encoding="utf-8")).body


def names_at_top(path):
    defined = [node.name for node in tops_of(path) if isinstance(node, (ast.FunctionDef, ast.ClassDef))]
    given = [node.targets[0].id for node in tops_of(path) if isinstance(node, ast.Assign)]
    return defined + given


def drawn_names(path):
    """The files that one draws from, each with a name that it draws."""
    rows = nodes_by_kind(path, ast.ImportFrom)
    return [(row.module.removeprefix("pagenook."), alias.name) for row in rows for alias in row.names]


def methods_of_package():
    classes = [node for path in package_files() for node in nodes_by_kind(path, ast.ClassDef)]
    return {part.name for node in classes for part in node.body if isinstance(part, ast.FunctionDef)} - DUNDERS


def values_of_package():
    nodes = [node for path in package_files() for node in nodes_by_kind(path, ast.Attribute)]
    return {node.attr for node in nodes if isinstance(node.ctx, ast.Store)}


def is_docstring(node):
    return isinstance(node, ast.Expr) and isinstance(node.value, ast.Constant) and isinstance(node.value.value, str)


def bound_names(path):
    names = [node.id for node in nodes_by_kind(path, ast.Name) if isinstance(node.ctx, ast.Store)]
    names += [node.arg for node in nodes_by_kind(path, ast.arg)]
    names += [node.name for node in nodes_by_kind(path, (ast.FunctionDef, ast.ClassDef))]
    names += [node.name for node in nodes_by_kind(path, ast.ExceptHandler) if node.name]
    return names


class Language(unittest.TestCase):
    def check_each(self, faults_of):
        for path in package_files():
            with self.subTest(file=path.name):
                self.assertEqual(faults_of(path), [])

    def test_the_modules_are_there(self):
        names = [path.name for path in package_files()]
        for name in ["__init__.py", "day.py", "errors.py", "index.py", "near.py", "nook.py", "words.py"]:
            self.assertIn(name, names)

    def test_files(self):
        for path in package_files():
            self.assertRegex(path.name, r"\A([a-z][a-z0-9_]*|__init__|__main__)\.py\Z")

    def test_signs_and_sizes(self):
        def faults_of(path):
            lines = path.read_text(encoding="utf-8").split("\n")
            faults = [line for line in lines if len(line) > 120 or not re.fullmatch("[ -~]*", line)]
            defs = nodes_by_kind(path, ast.FunctionDef)
            faults += [node.name for node in defs if node.end_lineno - node.lineno + 1 > 40]
            return faults + (["too long"] if len(lines) > 400 else [])

        self.check_each(faults_of)

    def test_words_that_stand_nowhere(self):
        self.check_each(lambda path: [m.group() for m in re.finditer(WORDS_NOWHERE, path.read_text(encoding="utf-8"))])

    def test_statements_and_expressions(self):
        def is_fault(node):
            if isinstance(node, (ast.Div, ast.MatMult)) or not isinstance(node, NODES):
                return True
            if isinstance(node, (ast.For, ast.While)):
                return bool(node.orelse)
            if isinstance(node, ast.Try):
                return bool(node.finalbody) or any(handler.type is None for handler in node.handlers)
            if isinstance(node, ast.Assign):
                return len(node.targets) != 1
            if isinstance(node, ast.ListComp):
                return len(node.generators) != 1 or len(node.generators[0].ifs) > 1
            if isinstance(node, (ast.FunctionDef, ast.ClassDef)):
                return bool(node.decorator_list)
            if isinstance(node, ast.arguments):
                return bool(node.vararg or node.kwarg or node.kwonlyargs or node.posonlyargs)
            if isinstance(node, ast.Constant):
                return isinstance(node.value, (float, bytes, complex)) or "%" in str(node.value)
            return False

        self.check_each(lambda path: [ast.dump(node) for node in nodes_of(path) if is_fault(node)])

    def test_imports(self):
        def faults_of(path):
            rows = nodes_by_kind(path, ast.ImportFrom)
            return [
                row.module for row in rows
                if row.level or not row.module.startswith("pagenook.") or any(a.name == "*" for a in row.names)
            ]

        self.check_each(faults_of)

    def test_names_are_drawn_from_the_file_that_defines_them(self):
        def faults_of(path):
            return [item for item in drawn_names(path) if item[1] not in names_at_top(PACKAGE / f"{item[0]}.py")]

        self.check_each(faults_of)

    def test_no_two_files_draw_from_one_another(self):
        drawn = {path.stem: {module for module, name in drawn_names(path)} for path in package_files()}
        while drawn:
            free = [name for name in drawn if not drawn[name] & set(drawn)]
            self.assertNotEqual(free, [], drawn)
            drawn = {name: modules for name, modules in drawn.items() if name not in free}

    def test_the_top_of_a_module(self):
        kinds = (ast.ImportFrom, ast.FunctionDef, ast.ClassDef, ast.Assign)

        def faults_of(path):
            tops = [ast.dump(node) for node in tops_of(path) if not isinstance(node, kinds) and not is_docstring(node)]
            names = names_at_top(path) + [name for module, name in drawn_names(path)]
            return tops + [name for name in names if names.count(name) > 1]

        self.check_each(faults_of)

    def test_classes(self):
        def faults_of(path):
            classes = nodes_by_kind(path, ast.ClassDef)
            faults = [node.name for node in classes if len(node.bases) > 1 or node.keywords]
            faults += [node.name for node in classes if node.name not in names_at_top(path)]
            parts = [part for node in classes for part in node.body if not is_docstring(part)]
            return faults + [ast.dump(part) for part in parts if not isinstance(part, ast.FunctionDef)]

        self.check_each(faults_of)

    def test_own_methods_and_values(self):
        methods, values = methods_of_package(), values_of_package()
        self.assertEqual(methods & values, set())
        taken = {name for kind in (str, int, list, dict, set, bytes) for name in dir(kind)}
        self.assertEqual((methods | values) & taken, set())

    def test_handlers(self):
        own = set(names_at_top(PACKAGE / "errors.py"))

        def faults_of(path):
            handlers = nodes_by_kind(path, ast.ExceptHandler)
            return [ast.dump(node.type) for node in handlers if getattr(node.type, "id", "") not in own]

        self.check_each(faults_of)

    def test_is_stands_beside_none_true_and_false(self):
        def faults_of(path):
            nodes = [node for node in nodes_by_kind(path, ast.Compare) if isinstance(node.ops[0], (ast.Is, ast.IsNot))]
            return [ast.dump(node) for node in nodes if not isinstance(node.comparators[0], ast.Constant)]

        self.check_each(faults_of)

    def test_sets_are_not_kept(self):
        def faults_of(path):
            calls = [node for node in nodes_by_kind(path, ast.Call) if isinstance(node.func, ast.Name)]
            used_at_once = [arg for node in calls if node.func.id in ("sorted", "len") for arg in node.args]
            made = [node for node in calls if node.func.id in ("set", "frozenset")]
            return [node.lineno for node in made if node not in used_at_once]

        self.check_each(faults_of)

    def test_names_of_python(self):
        def faults_of(path):
            used = [node.id for node in nodes_by_kind(path, ast.Name)]
            return [name for name in used if hasattr(builtins, name) and name not in OWN_NAMES_OF_PYTHON]

        self.check_each(faults_of)

    def test_names_of_its_own(self):
        def faults_of(path):
            names = [name for name in bound_names(path) if name not in DUNDERS]
            faults = [name for name in names if hasattr(builtins, name)]
            return faults + [name for name in names if not re.fullmatch("[A-Za-z][A-Za-z0-9_]*", name)]

        self.check_each(faults_of)

    def test_methods(self):
        own = {name for path in package_files() for name in bound_names(path)}

        def faults_of(path):
            called = [node.func for node in nodes_by_kind(path, ast.Call)]
            methods = [func.attr for func in called if isinstance(func, ast.Attribute)]
            return [name for name in methods if name not in METHODS_OF_PYTHON and name not in own]

        self.check_each(faults_of)


if __name__ == "__main__":
    unittest.main()
