"""What of ../shared/LANGUAGE.md, and of [0.1]'s 'no clock, chance or files', can be seen in the text."""

import ast
import builtins
import pathlib
import re
import unittest

PACKAGE = pathlib.Path(__file__).resolve().parent.parent / "tickbook"

OWN_NAMES = set(
    "len range enumerate zip min max sum abs sorted reversed int str bool list tuple dict set frozenset isinstance "
    "ord repr any all divmod ValueError KeyError IndexError LookupError ZeroDivisionError ArithmeticError "
    "OverflowError RuntimeError NotImplementedError StopIteration Exception".split()
)

BAD_WORDS = re.compile(
    r"\b(type|typing|typing_extensions|enum|Enum|IntEnum|StrEnum|Flag|IntFlag|Generic|Protocol|ABC|ABCMeta"
    r"|namedtuple|NamedTuple|TypedDict|TYPE_CHECKING|abstractmethod)\b|dataclass|overload|contextmanager"
)

NODES = (
    ast.Module, ast.ImportFrom, ast.alias, ast.FunctionDef, ast.arguments, ast.arg, ast.ClassDef, ast.Lambda,
    ast.Assign, ast.AugAssign, ast.If, ast.While, ast.For, ast.Return, ast.Break, ast.Continue, ast.Pass, ast.Raise,
    ast.Try, ast.ExceptHandler, ast.Expr, ast.Name, ast.Constant, ast.List, ast.Tuple, ast.Dict, ast.Set,
    ast.BinOp, ast.UnaryOp, ast.BoolOp, ast.Compare, ast.IfExp, ast.Call, ast.keyword, ast.Attribute, ast.Subscript,
    ast.Slice, ast.ListComp, ast.comprehension, ast.JoinedStr, ast.FormattedValue,
    ast.expr_context, ast.operator, ast.unaryop, ast.boolop, ast.cmpop,
)

OWN_METHODS = set(
    "append clear copy count endswith extend find get index insert isalnum isalpha isdigit islower isspace isupper "
    "items join keys ljust lower lstrip partition pop remove replace reverse rfind rjust rpartition rsplit rstrip "
    "setdefault split splitlines startswith strip update upper values zfill bit_length".split()
)

METHODS_WITH_UNDERSCORES = ("__init__", "__eq__", "__repr__", "__str__", "__len__")


def files():
    return sorted(PACKAGE.glob("*.py"))


def nodes(path):
    return list(ast.walk(ast.parse(path.read_text())))


def names_bound(node):
    if isinstance(node, (ast.FunctionDef, ast.ClassDef)):
        return [node.name]
    if isinstance(node, ast.arg):
        return [node.arg]
    if isinstance(node, ast.Name) and isinstance(node.ctx, ast.Store):
        return [node.id]
    if isinstance(node, ast.Attribute):
        return [node.attr]
    return []


def names_at_top(path):
    found = []
    for node in ast.parse(path.read_text()).body:
        if isinstance(node, ast.Assign):
            found.extend(target.id for target in node.targets)
        elif isinstance(node, (ast.FunctionDef, ast.ClassDef)):
            found.append(node.name)
    return found


def methods(path):
    found = []
    for node in nodes(path):
        if isinstance(node, ast.ClassDef):
            found.extend(part.name for part in node.body if isinstance(part, ast.FunctionDef))
    return found


def values(path):
    """The names that objects are given values under."""
    return [node.attr for node in nodes(path) if isinstance(node, ast.Attribute) and isinstance(node.ctx, ast.Store)]


def drawn_from(path):
    """The files that a file imports from, in however many steps."""
    found = []
    ahead = [path]
    while ahead:
        for node in nodes(ahead.pop()):
            if isinstance(node, ast.ImportFrom):
                source = PACKAGE / (node.module.split(".")[1] + ".py")
                if source not in found:
                    found.append(source)
                    ahead.append(source)
    return found


class Form(unittest.TestCase):
    def test_the_folder_holds_plain_files_alone(self):
        found = [path.name for path in PACKAGE.iterdir() if path.name != "__pycache__"]
        self.assertIn("__init__.py", found)
        for name in found:
            self.assertRegex(name, r"\A[a-z0-9_]+\.py\Z")

    def test_signs_and_sizes(self):
        for path in files():
            lines = path.read_bytes().decode("ascii").split("\n")
            self.assertLessEqual(len(lines), 400, path)
            for line in lines:
                self.assertRegex(line, r"\A[ -~]{0,120}\Z", path)
                self.assertIsNone(BAD_WORDS.search(line), (path, line))

    def test_functions_are_short_and_plain(self):
        for path in files():
            for node in nodes(path):
                if isinstance(node, ast.FunctionDef):
                    self.assertLessEqual(node.end_lineno - node.lineno + 1, 40, (path, node.name))
                    self.assertFalse(node.args.vararg or node.args.kwarg or node.args.kwonlyargs, (path, node.name))
                if isinstance(node, (ast.FunctionDef, ast.ClassDef)):
                    self.assertEqual(node.decorator_list, [], (path, node.name))

    def test_only_parts_of_the_language_that_are_allowed(self):
        for path in files():
            for node in nodes(path):
                where = (path, getattr(node, "lineno", None), node)
                self.assertIsInstance(node, NODES, where)
                self.assertNotIsInstance(node, (ast.Div, ast.MatMult), where)
                if isinstance(node, ast.Constant):
                    self.assertIn(type(node.value), (int, str, bool, type(None)), where)
                if isinstance(node, ast.Assign):
                    self.assertEqual(len(node.targets), 1, where)
                if isinstance(node, (ast.For, ast.While)):
                    self.assertEqual(node.orelse, [], where)

    def test_imports_are_the_package_s_own(self):
        for path in files():
            for node in nodes(path):
                if isinstance(node, ast.ImportFrom):
                    self.assertEqual(node.level, 0, path)
                    self.assertRegex(node.module, r"\Atickbook\.[a-z0-9_]+\Z", path)
                    source = names_at_top(PACKAGE / (node.module.split(".")[1] + ".py"))
                    for alias in node.names:
                        self.assertIn(alias.name, source, path)

    def test_of_python_s_names_only_those_allowed(self):
        for path in files():
            for node in nodes(path):
                if isinstance(node, ast.Name) and hasattr(builtins, node.id):
                    self.assertIn(node.id, OWN_NAMES, (path, node.lineno))
                    self.assertIsInstance(node.ctx, ast.Load, (path, node.lineno))
                if isinstance(node, ast.arg):
                    self.assertFalse(hasattr(builtins, node.arg), (path, node.lineno))

    def test_no_name_begins_with_an_underscore(self):
        for path in files():
            for node in nodes(path):
                for name in names_bound(node):
                    if name not in METHODS_WITH_UNDERSCORES:
                        self.assertFalse(name.startswith("_"), (path, name))

    def test_no_two_files_draw_from_one_another(self):
        for path in files():
            self.assertNotIn(path, drawn_from(path))

    def test_no_name_is_a_method_and_a_value(self):
        all_methods = {name for path in files() for name in methods(path)}
        all_values = {name for path in files() for name in values(path)}
        self.assertEqual(all_methods & all_values, set())

    def test_of_methods_only_own_ones_and_those_allowed(self):
        own = {name for path in files() for name in methods(path)}
        for path in files():
            for node in nodes(path):
                if isinstance(node, ast.Call) and isinstance(node.func, ast.Attribute):
                    self.assertIn(node.func.attr, own | OWN_METHODS, (path, node.lineno))

    def test_is_stands_beside_none_true_and_false_alone(self):
        for path in files():
            for node in nodes(path):
                if isinstance(node, ast.Compare) and isinstance(node.ops[0], (ast.Is, ast.IsNot)):
                    self.assertIn(ast.unparse(node.comparators[0]), ("None", "True", "False"), (path, node.lineno))


if __name__ == "__main__":
    unittest.main()
