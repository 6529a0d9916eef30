"""The form of the package's files, as far as it can be seen by reading them."""

import ast
import re
import unittest
from pathlib import Path

import tallpost
from tallpost import beside

FOLDER = Path(tallpost.__file__).parent
FILES = sorted(FOLDER.glob("*.py"))

STATEMENTS = (
    ast.Module, ast.FunctionDef, ast.ClassDef, ast.ImportFrom, ast.Assign, ast.AugAssign, ast.If, ast.While, ast.For,
    ast.Return, ast.Break, ast.Continue, ast.Pass, ast.Raise, ast.Try, ast.ExceptHandler, ast.Expr, ast.arguments,
    ast.arg, ast.alias, ast.keyword,
)
EXPRESSIONS = (
    ast.Constant, ast.Name, ast.Attribute, ast.Subscript, ast.Slice, ast.Call, ast.BinOp, ast.UnaryOp, ast.BoolOp,
    ast.Compare, ast.IfExp, ast.List, ast.Tuple, ast.Dict, ast.ListComp, ast.comprehension, ast.Lambda,
    ast.expr_context, ast.operator, ast.unaryop, ast.boolop, ast.cmpop,
)
BARRED_WORDS = re.compile(
    r"\b(type|typing|typing_extensions|enum|Enum|IntEnum|StrEnum|Flag|IntFlag|Generic|Protocol|ABC|ABCMeta|namedtuple"
    r"|NamedTuple|TypedDict|TYPE_CHECKING|abstractmethod)\b|dataclass|overload|contextmanager"
)
BARRED_NAMES = ("print", "open", "input", "eval", "exec", "compile", "getattr", "setattr", "globals", "locals", "sys")


class Form(unittest.TestCase):
    def setUp(self):
        self.texts = [path.read_text(encoding="utf-8") for path in FILES]
        self.nodes = [node for text in self.texts for node in ast.walk(ast.parse(text))]

    def test_nothing_else_lies_in_the_package(self):
        names = sorted(path.name for path in FOLDER.iterdir() if path.name != "__pycache__")
        self.assertEqual(names, [path.name for path in FILES])
        self.assertIn("__init__.py", names)
        self.assertIn("beside.py", names)

    def test_signs_and_sizes(self):
        for text in self.texts:
            rows = text.split("\n")
            self.assertLessEqual(len(rows), 400)
            for row in rows:
                self.assertLessEqual(len(row), 120)
                self.assertRegex(row, r"^[ -~]*$")
        for node in self.nodes:
            if isinstance(node, ast.FunctionDef):
                self.assertLessEqual(node.end_lineno - node.lineno + 1, 40, node.name)

    def test_only_the_packages_own_modules_are_imported(self):
        for node in self.nodes:
            self.assertNotIsInstance(node, ast.Import)
            if isinstance(node, ast.ImportFrom):
                self.assertEqual(node.level, 0)
                self.assertTrue(node.module.startswith("tallpost."), node.module)

    def test_only_plain_statements_and_expressions(self):
        for node in self.nodes:
            self.assertIsInstance(node, STATEMENTS + EXPRESSIONS)
            self.assertNotIsInstance(node, ast.Div)
            if isinstance(node, ast.Constant):
                self.assertIn(type(node.value), (int, str, bool, type(None)))
            if isinstance(node, ast.Name):
                self.assertNotIn(node.id, BARRED_NAMES)

    def test_barred_words(self):
        for text in self.texts:
            self.assertIsNone(BARRED_WORDS.search(text))

    def test_the_interface(self):
        code = beside.answers.__code__
        self.assertEqual(code.co_varnames[:code.co_argcount], ("calls",))
        self.assertEqual(beside.answers(calls=[0]), [1, 0])


if __name__ == "__main__":
    unittest.main()
