"""The package's files keep to the part of Python that the program is to be written in, as far as a walk can see."""

import ast
import builtins
import pathlib
import re
import unittest

PACKAGE = pathlib.Path(__file__).resolve().parent.parent / "sealedrows"
FILES = sorted(path for path in PACKAGE.rglob("*") if path.is_file() and "__pycache__" not in path.parts)

STATEMENTS = (
    ast.Assign, ast.AugAssign, ast.If, ast.While, ast.For, ast.Return, ast.Break, ast.Continue, ast.Pass, ast.Raise,
    ast.Try, ast.Expr, ast.FunctionDef, ast.ClassDef, ast.ImportFrom,
)
EXPRESSIONS = (
    ast.Constant, ast.List, ast.Tuple, ast.Dict, ast.BinOp, ast.UnaryOp, ast.Compare, ast.BoolOp, ast.IfExp, ast.Call,
    ast.Attribute, ast.Subscript, ast.Slice, ast.ListComp, ast.JoinedStr, ast.FormattedValue, ast.Name, ast.Lambda,
)
OWN_NAMES_OF_PYTHON = set(
    "len range enumerate zip min max sum abs sorted reversed int str bool list tuple dict set frozenset isinstance ord "
    "repr any all divmod Exception ValueError TypeError KeyError IndexError LookupError ZeroDivisionError "
    "ArithmeticError OverflowError RuntimeError NotImplementedError AttributeError StopIteration".split()
)
METHODS = set(
    "append clear copy count endswith extend find get index insert isalnum isalpha isdigit islower isspace isupper "
    "items join keys ljust lower lstrip partition pop remove replace reverse rfind rjust rpartition rsplit rstrip "
    "setdefault split splitlines startswith strip update upper values zfill bit_length".split()
)
NAMES_THAT_ARE_NOT_USED = set(
    "register mro elements open input version_info with_traceback add_note attrgetter breakpoint builtins compile "
    "copyright credits delattr dir eval exec exit gc getattr globals hasattr help id importlib license locals "
    "methodcaller os quit setattr super type vars sys".split()
)
WORDS_THAT_STAND_NOWHERE = re.compile(
    r"\b(type|typing|typing_extensions|enum|Enum|IntEnum|StrEnum|Flag|IntFlag|Generic|Protocol|ABC|ABCMeta|namedtuple"
    r"|NamedTuple|TypedDict|TYPE_CHECKING|abstractmethod)\b|dataclass|overload|contextmanager"
)


def tree_of(path):
    return ast.parse(path.read_text("ascii"))


def nodes_of(*kinds):
    return [(path, node) for path in FILES for node in ast.walk(tree_of(path)) if isinstance(node, kinds)]


def bound_names():
    found = [(path, node.name) for path, node in nodes_of(ast.FunctionDef, ast.ClassDef)]
    found += [(path, node.arg) for path, node in nodes_of(ast.arg)]
    found += [(path, node.id) for path, node in nodes_of(ast.Name) if isinstance(node.ctx, ast.Store)]
    return found


class LanguageTest(unittest.TestCase):
    def test_only_plain_files_lie_in_the_package(self):
        self.assertIn(PACKAGE / "__init__.py", FILES)
        for path in FILES:
            self.assertRegex(path.name, r"^([a-z][a-z0-9_]*|__init__|__main__)\.py$")

    def test_signs_and_sizes(self):
        for path in FILES:
            text = path.read_bytes().decode("ascii")
            self.assertIsNone(re.search(r"[^ -~\n]", text), path)
            self.assertLessEqual(len(text.splitlines()), 400, path)
            self.assertLessEqual(max(len(line) for line in text.splitlines()), 120, path)
            self.assertIsNone(WORDS_THAT_STAND_NOWHERE.search(text), path)

    def test_functions_are_short_and_plain(self):
        for path, node in nodes_of(ast.FunctionDef):
            where = f"{path.name}:{node.lineno}"
            self.assertLessEqual(node.end_lineno - node.lineno + 1, 40, where)
            self.assertEqual(node.decorator_list, [], where)
            given = node.args
            self.assertFalse(given.vararg or given.kwarg or given.kwonlyargs or given.posonlyargs, where)

    def test_statements_and_expressions(self):
        for path, node in nodes_of(ast.stmt):
            self.assertIsInstance(node, STATEMENTS, f"{path.name}:{node.lineno}")
        for path, node in nodes_of(ast.expr):
            self.assertIsInstance(node, EXPRESSIONS, f"{path.name}:{node.lineno}")

    def test_assignments_have_one_target(self):
        for path, node in nodes_of(ast.Assign):
            where = f"{path.name}:{node.lineno}"
            self.assertEqual(len(node.targets), 1, where)
            self.assertNotIsInstance(node.targets[0], (ast.Tuple, ast.List), where)

    def test_values_are_whole_numbers_and_texts(self):
        for path, node in nodes_of(ast.Constant):
            self.assertIn(type(node.value), (int, str, bool, type(None)), f"{path.name}:{node.lineno}")
        for path, node in nodes_of(ast.BinOp, ast.AugAssign):
            self.assertNotIsInstance(node.op, (ast.Div, ast.MatMult), f"{path.name}:{node.lineno}")

    def test_nothing_from_outside_is_imported(self):
        for path, node in nodes_of(ast.ImportFrom):
            self.assertEqual(node.level, 0)
            self.assertTrue(node.module.startswith("sealedrows."), f"{path.name}:{node.lineno}")

    def test_names(self):
        for path, name in bound_names():
            if name != "__init__":
                self.assertRegex(name, r"^[A-Za-z][A-Za-z0-9_]*$", path)
                self.assertFalse(hasattr(builtins, name), f"{path.name}: {name}")

    def test_names_of_python_that_are_read(self):
        for path, node in nodes_of(ast.Name):
            if hasattr(builtins, node.id):
                self.assertIn(node.id, OWN_NAMES_OF_PYTHON, f"{path.name}:{node.lineno}")

    def test_methods_that_are_called(self):
        own = {node.name for path, node in nodes_of(ast.FunctionDef)}
        for path, node in nodes_of(ast.Call):
            if isinstance(node.func, ast.Attribute):
                self.assertIn(node.func.attr, METHODS | own, f"{path.name}:{node.lineno}")

    def test_names_that_are_not_used(self):
        used = bound_names() + [(path, node.attr) for path, node in nodes_of(ast.Attribute)]
        used += [(path, node.id) for path, node in nodes_of(ast.Name)]
        for path, name in used:
            self.assertNotIn(name, NAMES_THAT_ARE_NOT_USED, path)

    def test_values_of_objects_and_methods_are_told_apart(self):
        stored = {node.attr for path, node in nodes_of(ast.Attribute) if isinstance(node.ctx, ast.Store)}
        methods = {
            inner.name for path, node in nodes_of(ast.ClassDef) for inner in node.body
            if isinstance(inner, ast.FunctionDef)
        }
        self.assertEqual(stored & methods, set())
        taken = {name for value in ("", 0, [], {}, set(), b"") for name in dir(value)}
        self.assertEqual((stored | methods - {"__init__"}) & taken, set())

    def test_names_are_bound_once_at_the_top(self):
        for path in FILES:
            found = []
            for node in tree_of(path).body:
                if isinstance(node, ast.Assign):
                    found.append(node.targets[0].id)
                if isinstance(node, (ast.FunctionDef, ast.ClassDef)):
                    found.append(node.name)
            self.assertEqual(len(found), len(set(found)), path)


if __name__ == "__main__":
    unittest.main()
