"""The package's files keep to the small part of Python that they are written in."""

import ast
import builtins
import re
import unittest
from pathlib import Path

PACKAGE = Path(__file__).resolve().parent.parent / "eightbits"
FILES = sorted(PACKAGE.rglob("*.py"))

ALLOWED_BUILTINS = set("""
    len range enumerate zip min max sum abs sorted reversed int str bool list tuple dict set frozenset
    isinstance ord repr any all divmod Exception ValueError KeyError IndexError LookupError
    ZeroDivisionError ArithmeticError OverflowError RuntimeError NotImplementedError AttributeError
    StopIteration
""".split())
UNUSED_WORDS = re.compile(
    r"\b(type|typing|typing_extensions|enum|Enum|IntEnum|StrEnum|Flag|IntFlag|Generic|Protocol|ABC|ABCMeta"
    r"|namedtuple|NamedTuple|TypedDict|TYPE_CHECKING|abstractmethod)\b|dataclass|overload|contextmanager"
)
UNUSED_NODES = (
    ast.With, ast.Match, ast.Delete, ast.Global, ast.Nonlocal, ast.Assert, ast.Yield, ast.YieldFrom,
    ast.Await, ast.AsyncFunctionDef, ast.AsyncFor, ast.AsyncWith, ast.NamedExpr, ast.Starred, ast.Div,
    ast.SetComp, ast.DictComp, ast.GeneratorExp, ast.Import,
)


def nodes_of(path):
    return list(ast.walk(ast.parse(path.read_text(encoding="utf-8"))))


class FormTest(unittest.TestCase):
    def test_only_python_files_lie_in_the_package(self):
        self.assertTrue(FILES)
        for path in PACKAGE.rglob("*"):
            if "__pycache__" not in path.parts and not path.is_dir():
                self.assertRegex(path.name, r"\A[a-z0-9_]+\.py\Z")

    def test_signs(self):
        for path in FILES:
            self.assertRegex(path.read_bytes().decode("ascii"), r"\A[\n -~]*\Z", path.name)

    def test_sizes(self):
        for path in FILES:
            rows = path.read_text(encoding="utf-8").split("\n")
            self.assertLessEqual(len(rows), 400, path.name)
            self.assertLessEqual(max(len(row) for row in rows), 120, path.name)
            for node in nodes_of(path):
                if isinstance(node, ast.FunctionDef):
                    self.assertLessEqual(node.end_lineno - node.lineno + 1, 40, node.name)

    def test_imports_are_the_packages_own(self):
        for path in FILES:
            for node in nodes_of(path):
                if isinstance(node, ast.ImportFrom):
                    self.assertEqual(node.level, 0, path.name)
                    self.assertTrue(node.module.startswith("eightbits."), path.name)

    def test_statements_and_expressions(self):
        for path in FILES:
            for node in nodes_of(path):
                self.assertNotIsInstance(node, UNUSED_NODES, path.name)

    def test_names_of_pythons_own(self):
        for path in FILES:
            for node in nodes_of(path):
                if isinstance(node, ast.Name) and hasattr(builtins, node.id):
                    self.assertIn(node.id, ALLOWED_BUILTINS, path.name)
                if isinstance(node, ast.arg):
                    self.assertFalse(hasattr(builtins, node.arg), f"{path.name}: {node.arg}")

    def test_words_that_are_not_used(self):
        for path in FILES:
            self.assertNotRegex(path.read_text(encoding="utf-8"), UNUSED_WORDS, path.name)


if __name__ == "__main__":
    unittest.main()
