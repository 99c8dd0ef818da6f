"""The package's own files keep to a small part of Python; this sees what can be seen file by file."""

import ast
import builtins
import pathlib
import re
import unittest

PACKAGE = pathlib.Path(__file__).resolve().parent.parent / "ladingchain"
FILES = sorted(path for path in PACKAGE.rglob("*") if path.is_file() and "__pycache__" not in path.parts)
TEXTS = [path.read_text(encoding="utf-8") for path in FILES]
NODES = [(path.name, node) for path, text in zip(FILES, TEXTS) for node in ast.walk(ast.parse(text))]

BUILT_IN = set(
    "len range enumerate zip min max sum abs sorted reversed int str bool list tuple dict set frozenset isinstance"
    " ord repr any all divmod Exception ValueError TypeError KeyError IndexError LookupError ZeroDivisionError"
    " ArithmeticError OverflowError RuntimeError NotImplementedError AttributeError StopIteration".split()
)
UNUSED = set(
    "register mro elements open input version_info with_traceback add_note format format_map attrgetter breakpoint"
    " compile copyright credits delattr dir eval exec exit gc getattr globals hasattr help id importlib license"
    " locals methodcaller os quit setattr super vars sys".split()
)
NO_WORDS = re.compile(
    r"\b(type|typing|typing_extensions|enum|Enum|IntEnum|StrEnum|Flag|IntFlag|Generic|Protocol|ABC|ABCMeta"
    r"|namedtuple|NamedTuple|TypedDict|TYPE_CHECKING|abstractmethod)\b|dataclass|overload|contextmanager"
)
OUT = (
    ast.With, ast.Match, ast.Delete, ast.Global, ast.Nonlocal, ast.Assert, ast.Yield, ast.YieldFrom, ast.Await,
    ast.AsyncFunctionDef, ast.AsyncFor, ast.AsyncWith, ast.Import, ast.SetComp, ast.DictComp, ast.GeneratorExp,
    ast.TryStar, ast.NamedExpr, ast.Starred, ast.Div, ast.MatMult, ast.AnnAssign,
)
METHODS = ("__init__", "__eq__", "__repr__", "__str__", "__len__")


def names_in(node):
    """The names that a node itself binds or reads."""
    if isinstance(node, ast.Name):
        return [node.id]
    if isinstance(node, ast.Attribute):
        return [node.attr]
    if isinstance(node, ast.arg):
        return [node.arg]
    if isinstance(node, (ast.FunctionDef, ast.ClassDef)):
        return [node.name]
    if isinstance(node, ast.alias):
        return [node.name] + ([node.asname] if node.asname else [])
    return []


def where(name, node):
    return f"{name}:{getattr(node, 'lineno', 0)}"


class TheFolder(unittest.TestCase):
    def test_holds_plain_files_alone(self):
        self.assertIn(PACKAGE / "__init__.py", FILES)
        for path in FILES:
            with self.subTest(path.name):
                self.assertRegex(path.name, r"\A([a-z][a-z0-9_]*|__init__|__main__)\.py\Z")


class EachFile(unittest.TestCase):
    def test_signs_words_and_size(self):
        for path, text in zip(FILES, TEXTS):
            with self.subTest(path.name):
                self.assertRegex(text, r"\A[ -~\n]*\Z")
                self.assertIsNone(NO_WORDS.search(text))
                lines = text.splitlines()
                self.assertLessEqual(len(lines), 400)
                self.assertLessEqual(max(len(line) for line in lines), 120)

    def test_imports_are_the_package_s_own_at_the_top(self):
        for path, text in zip(FILES, TEXTS):
            tree = ast.parse(text)
            for node in ast.walk(tree):
                if isinstance(node, ast.ImportFrom):
                    with self.subTest(where(path.name, node)):
                        self.assertIn(node, tree.body)
                        self.assertEqual(node.level, 0)
                        self.assertTrue(node.module.startswith("ladingchain."))

    def test_an_expression_by_itself_is_a_call(self):
        for path, text in zip(FILES, TEXTS):
            tree = ast.parse(text)
            for node in ast.walk(tree):
                if isinstance(node, ast.Expr) and node is not tree.body[0]:
                    with self.subTest(where(path.name, node)):
                        self.assertIsInstance(node.value, ast.Call)


class EachNode(unittest.TestCase):
    def test_functions_are_short_and_plain(self):
        for name, node in NODES:
            if isinstance(node, ast.FunctionDef):
                with self.subTest(where(name, node)):
                    self.assertLessEqual(node.end_lineno - node.lineno + 1, 40)
                    self.assertEqual(node.decorator_list, [])
                    self.assertIsNone(node.args.vararg)
                    self.assertIsNone(node.args.kwarg)
                    self.assertEqual(node.args.kwonlyargs + node.args.posonlyargs, [])

    def test_no_form_that_is_out(self):
        for name, node in NODES:
            with self.subTest(where(name, node)):
                self.assertNotIsInstance(node, OUT)
                if isinstance(node, (ast.For, ast.While)):
                    self.assertEqual(node.orelse, [])
                if isinstance(node, ast.Try):
                    self.assertEqual(node.finalbody, [])
                if isinstance(node, ast.Assign):
                    self.assertEqual(len(node.targets), 1)
                if isinstance(node, ast.Constant):
                    self.assertNotIsInstance(node.value, (float, complex, bytes))
                    self.assertNotIn("%", str(node.value))

    def test_names_are_plain(self):
        for name, node in NODES:
            for told in names_in(node):
                if told not in METHODS:
                    with self.subTest(where(name, node)):
                        self.assertRegex(told, r"\A[A-Za-z][A-Za-z0-9_]*\Z")
                        self.assertNotIn(told, UNUSED)

    def test_of_python_s_own_names_only_the_listed_ones(self):
        for name, node in NODES:
            with self.subTest(where(name, node)):
                if isinstance(node, ast.Name) and hasattr(builtins, node.id):
                    self.assertIn(node.id, BUILT_IN)
                    self.assertIsInstance(node.ctx, ast.Load)
                if isinstance(node, ast.arg):
                    self.assertFalse(hasattr(builtins, node.arg))


if __name__ == "__main__":
    unittest.main()
