"""The package's files keep to the small part of Python that they are written in."""

import ast
import builtins
import re
import unittest
from pathlib import Path

PACKAGE = Path(__file__).resolve().parent.parent / "eightbits"
FILES = sorted(PACKAGE.rglob("*.py"))

ALLOWED_BUILTINS = set("""
    len range enumerate zip min max sum abs sorted reversed int str bool list tuple dict set frozenset
    isinstance ord repr any all divmod Exception ValueError KeyError IndexError LookupError
    ZeroDivisionError ArithmeticError OverflowError RuntimeError NotImplementedError AttributeError
    StopIteration
""".split())
UNUSED_WORDS = re.compile(
    r"\b(type|typing|typing_extensions|enum|Enum|IntEnum|StrEnum|Flag|IntFlag|Generic|Protocol|ABC|ABCMeta"
    r"|namedtuple|NamedTuple|TypedDict|TYPE_CHECKING|abstractmethod)\b|dataclass|overload|contextmanager"
)
UNUSED_NODES = (
    ast.With, ast.Match, ast.Delete, ast.Global, ast.Nonlocal, ast.Assert, ast.Yield, ast.YieldFrom,
    ast.Await, ast.AsyncFunctionDef, ast.AsyncFor, ast.AsyncWith, ast.NamedExpr, ast.Starred, ast.Div,
    ast.SetComp, ast.DictComp, ast.GeneratorExp, ast.Import,
)
UNUSED_NAMES = set("""
    register mro elements open input version_info with_traceback add_note attrgetter breakpoint builtins compile
    copyright credits delattr dir eval exec exit gc getattr globals hasattr help id importlib license locals
    methodcaller os quit setattr super type vars sys chr
""".split())
METHODS_OF_PYTHONS_OWN = set("""
    append clear copy count endswith extend find get index insert isalnum isalpha isdigit islower isspace isupper
    items join keys ljust lower lstrip partition pop remove replace reverse rfind rjust rpartition rsplit rstrip
    setdefault split splitlines startswith strip update upper values zfill bit_length
""".split())
VALUES_OF_PYTHONS_OWN = {name for kind in (int, str, list, dict, set, bytes, tuple) for name in dir(kind)}
DOUBLE_UNDERSCORED = ("__init__", "__eq__", "__repr__", "__str__", "__len__")


def tree_of(path):
    return ast.parse(path.read_text(encoding="utf-8"))


def nodes_of(path):
    return list(ast.walk(tree_of(path)))


def own_methods():
    return {
        item.name for path in FILES for node in nodes_of(path) if isinstance(node, ast.ClassDef)
        for item in node.body if isinstance(item, ast.FunctionDef)
    }


def names_in(node):
    """Each name that the node itself binds or reads."""
    if isinstance(node, ast.Name):
        return [node.id]
    if isinstance(node, ast.arg):
        return [node.arg]
    if isinstance(node, ast.Attribute):
        return [node.attr]
    if isinstance(node, (ast.FunctionDef, ast.ClassDef)):
        return [node.name]
    return []


def is_plain(value, functions, within=False):
    """Whether a file's top may hold it: numbers, texts, and rows of these and of functions defined above."""
    if isinstance(value, ast.Constant):
        return value.value is None or isinstance(value.value, (int, str))
    if isinstance(value, ast.UnaryOp):
        return isinstance(value.op, ast.USub) and is_plain(value.operand, functions)
    if isinstance(value, ast.Name):
        return within and value.id in functions
    if isinstance(value, ast.Tuple):
        return all(is_plain(part, functions, True) for part in value.elts)
    if isinstance(value, ast.List) and not within:
        return all(is_plain(part, functions, True) for part in value.elts)
    if isinstance(value, ast.Dict) and not within:
        return all(is_plain(part, functions, True) for part in value.keys + value.values)
    return False


class FormTest(unittest.TestCase):
    def test_only_python_files_lie_in_the_package(self):
        self.assertTrue(FILES)
        for path in PACKAGE.rglob("*"):
            if "__pycache__" not in path.parts and not path.is_dir():
                self.assertRegex(path.name, r"\A[a-z0-9_]+\.py\Z")

    def test_signs(self):
        for path in FILES:
            self.assertRegex(path.read_bytes().decode("ascii"), r"\A[\n -~]*\Z", path.name)

    def test_sizes(self):
        for path in FILES:
            rows = path.read_text(encoding="utf-8").split("\n")
            self.assertLessEqual(len(rows), 400, path.name)
            self.assertLessEqual(max(len(row) for row in rows), 120, path.name)
            for node in nodes_of(path):
                if isinstance(node, ast.FunctionDef):
                    self.assertLessEqual(node.end_lineno - node.lineno + 1, 40, node.name)

    def test_imports_are_the_packages_own(self):
        for path in FILES:
            for node in nodes_of(path):
                if isinstance(node, ast.ImportFrom):
                    self.assertEqual(node.level, 0, path.name)
                    self.assertTrue(node.module.startswith("eightbits."), path.name)

    def test_statements_and_expressions(self):
        for path in FILES:
            for node in nodes_of(path):
                self.assertNotIsInstance(node, UNUSED_NODES, path.name)

    def test_names_of_pythons_own(self):
        for path in FILES:
            for node in nodes_of(path):
                if isinstance(node, ast.Name) and hasattr(builtins, node.id):
                    self.assertIn(node.id, ALLOWED_BUILTINS, path.name)
                if isinstance(node, ast.arg):
                    self.assertFalse(hasattr(builtins, node.arg), f"{path.name}: {node.arg}")

    def test_plain_names(self):
        for path in FILES:
            for node in nodes_of(path):
                for name in names_in(node):
                    if name not in DOUBLE_UNDERSCORED:
                        self.assertRegex(name, r"\A[A-Za-z][A-Za-z0-9_]*\Z", path.name)
                    self.assertNotIn(name, UNUSED_NAMES, path.name)

    def test_the_top_of_a_file(self):
        for path in FILES:
            bound = []
            for node in tree_of(path).body:
                if isinstance(node, ast.Assign):
                    self.assertTrue(is_plain(node.value, bound), f"{path.name}: {node.lineno}")
                    bound.append(node.targets[0].id)
                elif isinstance(node, ast.ImportFrom):
                    bound.extend(part.name for part in node.names)
                elif isinstance(node, (ast.FunctionDef, ast.ClassDef)):
                    bound.append(node.name)
                else:
                    self.assertIsInstance(node, ast.Expr, path.name)
                    self.assertIsInstance(node.value.value, str, path.name)
            self.assertEqual(sorted(bound), sorted(set(bound)), path.name)

    def test_functions_and_assignments(self):
        for path in FILES:
            for node in nodes_of(path):
                if isinstance(node, ast.FunctionDef):
                    self.assertEqual(node.decorator_list, [], node.name)
                    self.assertIsNone(node.args.vararg or node.args.kwarg, node.name)
                    self.assertEqual(node.args.kwonlyargs + node.args.posonlyargs, [], node.name)
                if isinstance(node, ast.Assign):
                    self.assertEqual(len(node.targets), 1, path.name)
                if isinstance(node, (ast.For, ast.While)):
                    self.assertEqual(node.orelse, [], path.name)
                if isinstance(node, ast.Compare) and isinstance(node.ops[0], (ast.Is, ast.IsNot)):
                    self.assertIsInstance(node.comparators[0], ast.Constant, path.name)

    def test_methods_and_values(self):
        methods = own_methods()
        for path in FILES:
            nodes = nodes_of(path)
            called = [node.func for node in nodes if isinstance(node, ast.Call)]
            for node in nodes:
                if not isinstance(node, ast.Attribute):
                    continue
                where = f"{path.name}: {node.lineno} {node.attr}"
                if any(node is other for other in called):
                    self.assertIn(node.attr, methods | METHODS_OF_PYTHONS_OWN, where)
                else:
                    self.assertNotIn(node.attr, methods, where)
                    self.assertNotIn(node.attr, VALUES_OF_PYTHONS_OWN, where)

    def test_no_text_has_the_sign_of_a_remainder(self):
        for path in FILES:
            for node in nodes_of(path):
                if isinstance(node, ast.Constant) and isinstance(node.value, str):
                    self.assertNotIn("%", node.value, path.name)

    def test_words_that_are_not_used(self):
        for path in FILES:
            self.assertNotRegex(path.read_text(encoding="utf-8"), UNUSED_WORDS, path.name)


if __name__ == "__main__":
    unittest.main()
