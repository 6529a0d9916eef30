"""The form of the package's files, as far as it can be seen by reading them."""

import ast
import re
import unittest
from pathlib import Path

import tallpost
from tallpost import beside

FOLDER = Path(tallpost.__file__).parent
FILES = sorted(FOLDER.glob("*.py"))

STATEMENTS = (
    ast.Module, ast.FunctionDef, ast.ClassDef, ast.ImportFrom, ast.Assign, ast.AugAssign, ast.If, ast.While, ast.For,
    ast.Return, ast.Break, ast.Continue, ast.Pass, ast.Raise, ast.Try, ast.ExceptHandler, ast.Expr, ast.arguments,
    ast.arg, ast.alias, ast.keyword,
)
EXPRESSIONS = (
    ast.Constant, ast.Name, ast.Attribute, ast.Subscript, ast.Slice, ast.Call, ast.BinOp, ast.UnaryOp, ast.BoolOp,
    ast.Compare, ast.IfExp, ast.List, ast.Tuple, ast.Dict, ast.ListComp, ast.comprehension, ast.Lambda,
    ast.expr_context, ast.operator, ast.unaryop, ast.boolop, ast.cmpop,
)
BARRED_WORDS = re.compile(
    r"\b(type|typing|typing_extensions|enum|Enum|IntEnum|StrEnum|Flag|IntFlag|Generic|Protocol|ABC|ABCMeta|namedtuple"
    r"|NamedTuple|TypedDict|TYPE_CHECKING|abstractmethod)\b|dataclass|overload|contextmanager"
)
BARRED_NAMES = ("print", "open", "input", "eval", "exec", "compile", "getattr", "setattr", "globals", "locals", "sys")
PYTHONS_NAMES = (
    "len range enumerate zip min max sum abs sorted reversed int str bool list tuple dict set frozenset isinstance ord "
    "repr any all divmod"
).split()
PYTHONS_METHODS = (
    "append clear copy count endswith extend find get index insert isalnum isalpha isdigit islower isspace isupper "
    "items join keys ljust lower lstrip partition pop remove replace reverse rfind rjust rpartition rsplit rstrip "
    "setdefault split splitlines startswith strip update upper values zfill bit_length"
).split()
PYTHONS_OWN = {name for kind in (str, int, list, dict, set, bytes, tuple) for name in dir(kind)}


def bound_names(tree):
    """Every name that a file binds, wherever in it."""
    names = [node.name for node in ast.walk(tree) if isinstance(node, (ast.FunctionDef, ast.ClassDef, ast.alias))]
    names += [node.arg for node in ast.walk(tree) if isinstance(node, ast.arg)]
    names += [node.id for node in ast.walk(tree) if isinstance(node, ast.Name) and isinstance(node.ctx, ast.Store)]
    return names


class Form(unittest.TestCase):
    def setUp(self):
        self.texts = [path.read_text(encoding="utf-8") for path in FILES]
        self.trees = [ast.parse(text) for text in self.texts]
        self.nodes = [node for tree in self.trees for node in ast.walk(tree)]

    def test_nothing_else_lies_in_the_package(self):
        names = sorted(path.name for path in FOLDER.iterdir() if path.name != "__pycache__")
        self.assertEqual(names, [path.name for path in FILES])
        self.assertIn("__init__.py", names)
        self.assertIn("beside.py", names)

    def test_signs_and_sizes(self):
        for text in self.texts:
            rows = text.split("\n")
            self.assertLessEqual(len(rows), 400)
            for row in rows:
                self.assertLessEqual(len(row), 120)
                self.assertRegex(row, r"^[ -~]*$")
        for node in self.nodes:
            if isinstance(node, ast.FunctionDef):
                self.assertLessEqual(node.end_lineno - node.lineno + 1, 40, node.name)

    def test_only_the_packages_own_modules_are_imported(self):
        for node in self.nodes:
            self.assertNotIsInstance(node, ast.Import)
            if isinstance(node, ast.ImportFrom):
                self.assertEqual(node.level, 0)
                self.assertTrue(node.module.startswith("tallpost."), node.module)

    def test_only_plain_statements_and_expressions(self):
        for node in self.nodes:
            self.assertIsInstance(node, STATEMENTS + EXPRESSIONS)
            self.assertNotIsInstance(node, ast.Div)
            if isinstance(node, ast.Constant):
                self.assertIn(type(node.value), (int, str, bool, type(None)))
            if isinstance(node, ast.Name):
                self.assertNotIn(node.id, BARRED_NAMES)

    def test_every_name_is_the_files_own_or_one_of_pythons_that_may_be_used(self):
        for tree in self.trees:
            bound = bound_names(tree)
            for name in bound:
                self.assertRegex(name, r"^([A-Za-z][A-Za-z0-9_]*|__init__)$")
                self.assertNotIn(name, PYTHONS_NAMES)
            for node in ast.walk(tree):
                if isinstance(node, ast.Name):
                    self.assertIn(node.id, bound + PYTHONS_NAMES)

    def test_methods_and_values(self):
        classes = [node for node in self.nodes if isinstance(node, ast.ClassDef)]
        methods = [part.name for node in classes for part in node.body if isinstance(part, ast.FunctionDef)]
        self.assertEqual(len(methods), len(set(methods)))
        for name in methods:
            self.assertTrue(name == "__init__" or name not in PYTHONS_OWN, name)
        called = [node.func.attr for node in self.nodes
                  if isinstance(node, ast.Call) and isinstance(node.func, ast.Attribute)]
        stored = [node.attr for node in self.nodes
                  if isinstance(node, ast.Attribute) and isinstance(node.ctx, ast.Store)]
        for name in called:
            self.assertIn(name, methods + PYTHONS_METHODS)
        for name in stored:
            self.assertNotIn(name, methods)
            self.assertNotIn(name, PYTHONS_OWN)

    def test_one_target_and_is_beside_none_alone(self):
        for node in self.nodes:
            if isinstance(node, ast.Assign):
                self.assertEqual(len(node.targets), 1)
                self.assertNotIsInstance(node.targets[0], (ast.Tuple, ast.List))
            if isinstance(node, ast.Compare) and isinstance(node.ops[0], (ast.Is, ast.IsNot)):
                self.assertIsInstance(node.comparators[0], ast.Constant)

    def test_barred_words(self):
        for text in self.texts:
            self.assertIsNone(BARRED_WORDS.search(text))

    def test_the_interface(self):
        code = beside.answers.__code__
        self.assertEqual(code.co_varnames[:code.co_argcount], ("calls",))
        self.assertEqual(beside.answers(calls=[0]), [1, 0])


if __name__ == "__main__":
    unittest.main()
