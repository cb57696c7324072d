"""The package keeps to the part of Python that it is written in, as far as a short check can see."""

import ast
import builtins
import pathlib
import re
import unittest

PACKAGE = pathlib.Path(__file__).resolve().parent.parent / "unitsheet"
STATEMENTS = (
    ast.Assign, ast.AugAssign, ast.If, ast.While, ast.For, ast.Return, ast.Break, ast.Continue, ast.Pass, ast.Raise,
    ast.Try, ast.Expr, ast.FunctionDef, ast.ClassDef, ast.ImportFrom,
)
NO_EXPRESSIONS = (
    ast.Set, ast.SetComp, ast.DictComp, ast.GeneratorExp, ast.NamedExpr, ast.Starred, ast.Yield, ast.YieldFrom,
    ast.Await, ast.Div, ast.MatMult,
)
OWN_OF_PYTHON = set(
    "len range enumerate zip min max sum abs sorted reversed int str bool list tuple dict set frozenset isinstance ord "
    "repr any all divmod Exception ValueError TypeError KeyError IndexError LookupError ZeroDivisionError "
    "ArithmeticError OverflowError RuntimeError NotImplementedError AttributeError StopIteration".split())
METHODS_OF_PYTHON = set(
    "append clear copy count endswith extend find get index insert isalnum isalpha isdigit islower isspace isupper "
    "items join keys ljust lower lstrip partition pop remove replace reverse rfind rjust rpartition rsplit rstrip "
    "setdefault split splitlines startswith strip update upper values zfill bit_length".split())
NO_WORDS = re.compile(
    r"\b(type|typing|typing_extensions|enum|Enum|IntEnum|StrEnum|Flag|IntFlag|Generic|Protocol|ABC|ABCMeta|namedtuple|"
    r"NamedTuple|TypedDict|TYPE_CHECKING|abstractmethod|register|mro|elements|open|input)\b"
    r"|dataclass|overload|contextmanager")


def files():
    return sorted(PACKAGE.glob("*.py"))


def trees():
    return [(path.name, ast.parse(path.read_text("ascii"))) for path in files()]


def walked(kinds):
    return [(name, node) for name, tree in trees() for node in ast.walk(tree) if isinstance(node, kinds)]


class Files(unittest.TestCase):
    def test_only_python_files_lie_in_the_package(self):
        others = [path.name for path in PACKAGE.iterdir() if path.suffix != ".py" and path.name != "__pycache__"]
        self.assertEqual(others, [])
        self.assertIn("__init__.py", [path.name for path in files()])

    def test_signs_and_sizes(self):
        for path in files():
            text = path.read_bytes()
            lines = text.split(b"\n")
            self.assertTrue(all(byte == 10 or 32 <= byte <= 126 for byte in text), path.name)
            self.assertLessEqual(len(lines), 400, path.name)
            self.assertLessEqual(max(len(line) for line in lines), 120, path.name)

    def test_words_that_stand_nowhere(self):
        for path in files():
            self.assertIsNone(NO_WORDS.search(path.read_text("ascii")), path.name)


class Forms(unittest.TestCase):
    def test_statements(self):
        for name, node in walked(ast.stmt):
            self.assertIsInstance(node, STATEMENTS, (name, node.lineno))
            if isinstance(node, (ast.For, ast.While)):
                self.assertEqual(node.orelse, [], (name, node.lineno))
            if isinstance(node, ast.Try):
                self.assertEqual(node.finalbody, [], (name, node.lineno))
            if isinstance(node, ast.Assign):
                self.assertEqual(len(node.targets), 1, (name, node.lineno))
                self.assertNotIsInstance(node.targets[0], ast.Tuple, (name, node.lineno))

    def test_what_stands_by_itself_is_a_call_or_the_top_docstring(self):
        for name, tree in trees():
            for node in ast.walk(tree):
                if isinstance(node, ast.Expr) and node is not tree.body[0]:
                    self.assertIsInstance(node.value, ast.Call, (name, node.lineno))

    def test_expressions(self):
        for name, node in walked(NO_EXPRESSIONS):
            self.fail((name, ast.dump(node)))
        for name, node in walked(ast.Constant):
            self.assertNotIsInstance(node.value, (float, complex, bytes), (name, node.lineno))
            self.assertFalse(isinstance(node.value, str) and "%" in node.value, (name, node.lineno))
        for name, node in walked(ast.ListComp):
            self.assertEqual(len(node.generators), 1, (name, node.lineno))

    def test_no_powers(self):
        self.assertEqual(walked(ast.Pow), [])

    def test_is_stands_beside_none_true_and_false_alone(self):
        for name, node in walked(ast.Compare):
            if any(isinstance(sign, (ast.Is, ast.IsNot)) for sign in node.ops):
                self.assertIn(ast.unparse(node.comparators[0]), ("None", "True", "False"), (name, node.lineno))

    def test_imports_are_the_package_s_own(self):
        for name, node in walked(ast.ImportFrom):
            self.assertEqual(node.level, 0, (name, node.lineno))
            self.assertTrue(node.module.startswith("unitsheet."), (name, node.lineno))
            self.assertNotIn("*", [alias.name for alias in node.names], (name, node.lineno))

    def test_functions(self):
        for name, node in walked(ast.FunctionDef):
            self.assertLessEqual(node.end_lineno - node.lineno + 1, 40, (name, node.name))
            self.assertEqual(node.decorator_list, [], (name, node.name))
            given = node.args
            self.assertEqual((given.vararg, given.kwarg, given.kwonlyargs), (None, None, []), (name, node.name))

    def test_classes_hold_methods_alone(self):
        for name, node in walked(ast.ClassDef):
            for member in node.body:
                self.assertIsInstance(member, ast.FunctionDef, (name, node.name))


class Names(unittest.TestCase):
    def test_none_of_python_s_own_but_those_listed(self):
        for name, node in walked(ast.Name):
            if hasattr(builtins, node.id):
                self.assertIn(node.id, OWN_OF_PYTHON, (name, node.lineno))
                self.assertIsInstance(node.ctx, ast.Load, (name, node.lineno))

    def test_none_is_bound_like_one_of_python_s_own(self):
        for name, node in walked((ast.arg, ast.FunctionDef, ast.ClassDef)):
            bound = node.arg if isinstance(node, ast.arg) else node.name
            if bound != "__init__":
                self.assertFalse(hasattr(builtins, bound) or bound.startswith("_"), (name, bound))

    def test_methods(self):
        own = {node.name for name, node in walked(ast.FunctionDef)}
        for name, node in walked(ast.Call):
            if isinstance(node.func, ast.Attribute):
                self.assertIn(node.func.attr, METHODS_OF_PYTHON | own, (name, node.lineno))

    def test_no_name_is_a_method_and_a_value(self):
        methods = {
            member.name for name, node in walked(ast.ClassDef) for member in node.body
            if isinstance(member, ast.FunctionDef)}
        values = {node.attr for name, node in walked(ast.Attribute) if isinstance(node.ctx, ast.Store)}
        self.assertEqual(methods & values, set())
        of_python = set(dir(str)) | set(dir(int)) | set(dir(list)) | set(dir(dict)) | set(dir(set)) | set(dir(bytes))
        self.assertEqual((methods | values) & of_python - {"__init__"}, set())


if __name__ == "__main__":
    unittest.main()
