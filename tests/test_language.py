"""The package's own files keep to a small part of Python; this sees what can be seen file by file."""

import ast
import builtins
import pathlib
import re
import unittest

PACKAGE = pathlib.Path(__file__).resolve().parent.parent / "ladingchain"
FILES = sorted(path for path in PACKAGE.rglob("*") if path.is_file() and "__pycache__" not in path.parts)
TEXTS = [path.read_text(encoding="utf-8") for path in FILES]
NODES = [(path.name, node) for path, text in zip(FILES, TEXTS) for node in ast.walk(ast.parse(text))]

BUILT_IN = set(
    "len range enumerate zip min max sum abs sorted reversed int str bool list tuple dict set frozenset isinstance"
    " ord repr any all divmod Exception ValueError TypeError KeyError IndexError LookupError ZeroDivisionError"
    " ArithmeticError OverflowError RuntimeError NotImplementedError AttributeError StopIteration".split()
)
UNUSED = set(
    "register mro elements open input version_info with_traceback add_note format format_map attrgetter breakpoint"
    " compile copyright credits delattr dir eval exec exit gc getattr globals hasattr help id importlib license"
    " locals methodcaller os quit setattr super vars sys".split()
)
NO_WORDS = re.compile(
    r"\b(type|typing|typing_extensions|enum|Enum|IntEnum|StrEnum|Flag|IntFlag|Generic|Protocol|ABC|ABCMeta"
    r"|namedtuple|NamedTuple|TypedDict|TYPE_CHECKING|abstractmethod)\b|dataclass|overload|contextmanager"
)
OUT = (
    ast.With, ast.Match, ast.Delete, ast.Global, ast.Nonlocal, ast.Assert, ast.Yield, ast.YieldFrom, ast.Await,
    ast.AsyncFunctionDef, ast.AsyncFor, ast.AsyncWith, ast.Import, ast.SetComp, ast.DictComp, ast.GeneratorExp,
    ast.TryStar, ast.NamedExpr, ast.Starred, ast.Div, ast.MatMult, ast.AnnAssign,
)
METHODS = ("__init__", "__eq__", "__repr__", "__str__", "__len__")
OWN_OF_PYTHON = set(
    "append clear copy count endswith extend find get index insert isalnum isalpha isdigit islower isspace isupper"
    " items join keys ljust lower lstrip partition pop remove replace reverse rfind rjust rpartition rsplit rstrip"
    " setdefault split splitlines startswith strip update upper values zfill bit_length".split()
)
READING = ("get", "items", "keys", "values", "index", "count", "copy")
WALKED = ("zip", "enumerate", "reversed", "range")
WALKERS = ("list", "tuple", "dict", "sorted", "sum", "any", "all", "enumerate", "zip", "min", "max")
TREES = {path.stem: ast.parse(text) for path, text in zip(FILES, TEXTS)}
CHANGING = ("append", "clear", "extend", "insert", "pop", "remove", "reverse", "setdefault", "update")
NAMES_OF_VALUES = {name for kind in (str, int, list, tuple, dict, set, frozenset, bytes) for name in dir(kind)}
ALSO_FREE = set("count index title find get join lower upper split strip copy add".split())
KEYWORDS = {"sorted": ("key", "reverse"), "min": ("key", "default"), "max": ("key", "default"), "sum": ("start",),
            "enumerate": ("start",), "zip": ("strict",)}
NO_FILES = re.compile(r"test.*|site|conftest|sitecustomize|usercustomize|typing.*|enum|type")


def names_in(node):
    """The names that a node itself binds or reads."""
    if isinstance(node, ast.Name):
        return [node.id]
    if isinstance(node, ast.Attribute):
        return [node.attr]
    if isinstance(node, ast.arg):
        return [node.arg]
    if isinstance(node, (ast.FunctionDef, ast.ClassDef)):
        return [node.name]
    if isinstance(node, ast.alias):
        return [node.name] + ([node.asname] if node.asname else [])
    return []


def top_names(tree):
    """The names that a file binds at its top, imports too, each as often as it is bound."""
    names = []
    for node in tree.body:
        if isinstance(node, (ast.FunctionDef, ast.ClassDef)):
            names.append(node.name)
        if isinstance(node, ast.Assign):
            names.append(node.targets[0].id)
        if isinstance(node, ast.ImportFrom):
            names.extend(alias.name for alias in node.names)
    return names


def parents_in(tree):
    return {child: node for node in ast.walk(tree) for child in ast.iter_child_nodes(node)}


def is_call_of(node, names):
    return isinstance(node, ast.Call) and isinstance(node.func, ast.Name) and node.func.id in names


def own_methods():
    classes = [node for name, node in NODES if isinstance(node, ast.ClassDef)]
    return {inner.name for node in classes for inner in node.body if isinstance(inner, ast.FunctionDef)}


def own_classes():
    return {node.name for name, node in NODES if isinstance(node, ast.ClassDef)}


def values_given():
    """The attributes that are given a value somewhere in the package, with the node that gives it."""
    return [(name, node) for name, node in NODES if isinstance(node, ast.Attribute) and isinstance(node.ctx, ast.Store)]


def where(name, node):
    return f"{name}:{getattr(node, 'lineno', 0)}"


class TheFolder(unittest.TestCase):
    def test_holds_plain_files_alone(self):
        self.assertIn(PACKAGE / "__init__.py", FILES)
        for path in FILES:
            with self.subTest(path.name):
                self.assertRegex(path.name, r"\A([a-z][a-z0-9_]*|__init__|__main__)\.py\Z")
                self.assertIsNone(NO_FILES.fullmatch(path.stem))
                self.assertNotIn(path.stem, vars(builtins))


class EachFile(unittest.TestCase):
    def test_signs_words_and_size(self):
        for path, text in zip(FILES, TEXTS):
            with self.subTest(path.name):
                self.assertRegex(text, r"\A[ -~\n]*\Z")
                self.assertIsNone(NO_WORDS.search(text))
                lines = text.splitlines()
                self.assertLessEqual(len(lines), 400)
                self.assertLessEqual(max(len(line) for line in lines), 120)

    def test_imports_are_the_package_s_own_at_the_top(self):
        for path, text in zip(FILES, TEXTS):
            tree = ast.parse(text)
            for node in ast.walk(tree):
                if isinstance(node, ast.ImportFrom):
                    with self.subTest(where(path.name, node)):
                        self.assertIn(node, tree.body)
                        self.assertEqual(node.level, 0)
                        self.assertTrue(node.module.startswith("ladingchain."))

    def test_imports_are_from_the_file_that_defines_the_name(self):
        for stem, tree in TREES.items():
            for node in tree.body:
                if isinstance(node, ast.ImportFrom):
                    drawn_from = TREES[node.module.partition(".")[2]]
                    imported = [inner for inner in drawn_from.body if isinstance(inner, ast.ImportFrom)]
                    passed_on = {alias.name for inner in imported for alias in inner.names}
                    for alias in node.names:
                        with self.subTest(where(stem, node), name=alias.name):
                            self.assertIn(alias.name, top_names(drawn_from))
                            self.assertNotIn(alias.name, passed_on)

    def test_no_two_files_draw_from_one_another(self):
        left = {
            stem: {node.module.partition(".")[2] for node in tree.body if isinstance(node, ast.ImportFrom)}
            for stem, tree in TREES.items()
        }
        while left:
            free = [stem for stem, drawn in left.items() if not drawn & set(left)]
            self.assertNotEqual(free, [], f"in a ring: {sorted(left)}")
            left = {stem: drawn for stem, drawn in left.items() if stem not in free}

    def test_at_the_top_each_name_is_bound_once_to_a_plain_value(self):
        kinds = (ast.Expr, ast.ImportFrom, ast.FunctionDef, ast.ClassDef, ast.Assign)
        plain = (ast.Constant, ast.List, ast.Tuple, ast.Dict, ast.Name, ast.Load)
        for stem, tree in TREES.items():
            names = top_names(tree)
            self.assertEqual(len(names), len(set(names)), stem)
            for node in tree.body:
                with self.subTest(where(stem, node)):
                    self.assertIsInstance(node, kinds)
                    if isinstance(node, ast.Assign):
                        inner = list(ast.walk(node.value))
                        self.assertEqual([part for part in inner if not isinstance(part, plain)], [])
                        self.assertFalse(any(isinstance(part, (ast.List, ast.Dict)) for part in inner[1:]))

    def test_lists_and_dicts_of_the_top_are_only_read(self):
        for stem, tree in TREES.items():
            parents = parents_in(tree)
            tables = [node.targets[0].id for node in tree.body
                      if isinstance(node, ast.Assign) and isinstance(node.value, (ast.List, ast.Dict))]
            for node in ast.walk(tree):
                if isinstance(node, ast.Name) and node.id in tables and isinstance(node.ctx, ast.Load):
                    above = parents[node]
                    with self.subTest(where(stem, node)):
                        self.assertIsInstance(above, (ast.Subscript, ast.Compare, ast.For, ast.Attribute, ast.Call))
                        if isinstance(above, ast.Subscript):
                            self.assertIsInstance(above.ctx, ast.Load)
                        if isinstance(above, ast.Attribute):
                            self.assertIn(above.attr, READING)
                        if isinstance(above, ast.Call):
                            self.assertTrue(is_call_of(above, ("len", "list", "dict", "tuple", "sorted")))

    def test_locals_are_not_called_like_classes_or_imports(self):
        for stem, tree in TREES.items():
            taken = [alias.name for node in tree.body if isinstance(node, ast.ImportFrom) for alias in node.names]
            taken += [node.name for node in tree.body if isinstance(node, ast.ClassDef)]
            for node in ast.walk(tree):
                with self.subTest(where(stem, node)):
                    if isinstance(node, ast.arg):
                        self.assertNotIn(node.arg, taken)
                    if isinstance(node, ast.Name) and isinstance(node.ctx, ast.Store):
                        self.assertNotIn(node.id, taken)

    def test_what_is_walked_is_walked_on_the_spot_and_sets_are_not_kept(self):
        for stem, tree in TREES.items():
            parents = parents_in(tree)
            for node in ast.walk(tree):
                above = parents.get(node)
                with self.subTest(where(stem, node)):
                    if is_call_of(node, WALKED):
                        looped = isinstance(above, (ast.For, ast.comprehension)) and above.iter is node
                        self.assertTrue(looped or is_call_of(above, WALKERS))
                    if is_call_of(node, ("set", "frozenset")) and not isinstance(above, (ast.Compare, ast.BinOp)):
                        self.assertTrue(is_call_of(above, ("len", "sorted")))

    def test_an_expression_by_itself_is_a_call(self):
        for path, text in zip(FILES, TEXTS):
            tree = ast.parse(text)
            for node in ast.walk(tree):
                if isinstance(node, ast.Expr) and node is not tree.body[0]:
                    with self.subTest(where(path.name, node)):
                        self.assertIsInstance(node.value, ast.Call)


class ClassesAndTheirValues(unittest.TestCase):
    def test_no_name_is_a_method_and_a_value(self):
        values = {node.attr for name, node in values_given()}
        self.assertEqual(values & own_methods(), set())

    def test_no_method_stands_twice_in_a_class_and_nothing_else_stands_there(self):
        for name, node in NODES:
            if isinstance(node, ast.ClassDef):
                with self.subTest(where(name, node)):
                    methods = [inner.name for inner in node.body if isinstance(inner, ast.FunctionDef)]
                    self.assertEqual(len(methods), len(set(methods)))
                    self.assertLessEqual(len(node.bases), 1)
                    for inner in node.body:
                        self.assertIsInstance(inner, (ast.FunctionDef, ast.Pass))

    def test_own_methods_and_values_are_called_unlike_those_of_python_s_values(self):
        values = {node.attr for name, node in values_given()}
        self.assertEqual(values & (NAMES_OF_VALUES - ALSO_FREE), set())
        self.assertEqual(own_methods() & (NAMES_OF_VALUES - OWN_OF_PYTHON - set(METHODS) - {"add", "discard"}), set())

    def test_values_are_given_through_local_names(self):
        for name, node in values_given():
            with self.subTest(where(name, node)):
                self.assertIsInstance(node.value, ast.Name)
                self.assertNotIn(node.value.id, top_names(TREES[name.partition(".")[0]]))

    def test_classes_are_called_or_stand_by_isinstance_except_and_raise_alone(self):
        classes = own_classes()
        for stem, tree in TREES.items():
            parents = parents_in(tree)
            for node in ast.walk(tree):
                if isinstance(node, ast.Name) and node.id in classes:
                    above = parents[node]
                    with self.subTest(where(stem, node)):
                        called = isinstance(above, ast.Call) and above.func is node
                        caught = isinstance(above, (ast.ExceptHandler, ast.ClassDef))
                        self.assertTrue(called or caught or is_call_of(above, ("isinstance",)))

    def test_methods_are_called_where_they_stand(self):
        methods = own_methods() | OWN_OF_PYTHON
        for stem, tree in TREES.items():
            parents = parents_in(tree)
            for node in ast.walk(tree):
                if isinstance(node, ast.Attribute) and node.attr in methods:
                    with self.subTest(where(stem, node)):
                        self.assertIsInstance(parents[node], ast.Call)
                        self.assertIs(parents[node].func, node)


class LoopsAndCalls(unittest.TestCase):
    def test_what_a_loop_walks_is_not_changed_in_it(self):
        for name, node in NODES:
            if isinstance(node, ast.For):
                walked = [ast.unparse(inner) for inner in ast.walk(node.iter) if isinstance(inner, ast.expr)]
                for inner in [part for line in node.body for part in ast.walk(line)]:
                    with self.subTest(where(name, inner)):
                        if isinstance(inner, ast.Call) and isinstance(inner.func, ast.Attribute):
                            changes = inner.func.attr in CHANGING
                            self.assertFalse(changes and ast.unparse(inner.func.value) in walked)
                        if isinstance(inner, ast.Subscript) and isinstance(inner.ctx, ast.Store):
                            self.assertNotIn(ast.unparse(inner.value), walked)

    def test_items_keys_and_values_are_walked_on_the_spot(self):
        for stem, tree in TREES.items():
            parents = parents_in(tree)
            for node in ast.walk(tree):
                if isinstance(node, ast.Call) and isinstance(node.func, ast.Attribute):
                    if node.func.attr in ("items", "keys", "values"):
                        above = parents[node]
                        looped = isinstance(above, (ast.For, ast.comprehension)) and above.iter is node
                        with self.subTest(where(stem, node)):
                            self.assertTrue(looped or is_call_of(above, WALKERS))

    def test_keywords_stand_where_they_are_listed(self):
        for name, node in NODES:
            if isinstance(node, ast.Call):
                with self.subTest(where(name, node)):
                    listed = KEYWORDS.get(node.func.id, ()) if isinstance(node.func, ast.Name) else ()
                    self.assertEqual([word.arg for word in node.keywords if word.arg not in listed], [])

    def test_comprehensions_have_one_for_and_at_most_one_if(self):
        for name, node in NODES:
            if isinstance(node, ast.ListComp):
                with self.subTest(where(name, node)):
                    self.assertEqual(len(node.generators), 1)
                    self.assertLessEqual(len(node.generators[0].ifs), 1)

    def test_of_errors_the_package_s_own_alone_are_taken_and_raised(self):
        classes = own_classes()
        for name, node in NODES:
            with self.subTest(where(name, node)):
                if isinstance(node, ast.ExceptHandler):
                    self.assertIn(ast.unparse(node.type), classes)
                if isinstance(node, ast.Raise):
                    self.assertIn(ast.unparse(node.exc.func), classes)
                    self.assertIsNone(node.cause)

    def test_functions_kept_in_dicts_are_defined_above_in_the_same_file(self):
        for stem, tree in TREES.items():
            above = set()
            for node in tree.body:
                if isinstance(node, ast.Assign):
                    held = [inner.id for inner in ast.walk(node.value) if isinstance(inner, ast.Name)]
                    with self.subTest(where(stem, node)):
                        self.assertEqual([name for name in held if name not in above], [])
                if isinstance(node, ast.FunctionDef):
                    above.add(node.name)


class EachNode(unittest.TestCase):
    def test_functions_are_short_and_plain(self):
        for name, node in NODES:
            if isinstance(node, ast.FunctionDef):
                with self.subTest(where(name, node)):
                    self.assertLessEqual(node.end_lineno - node.lineno + 1, 40)
                    self.assertEqual(node.decorator_list, [])
                    self.assertIsNone(node.args.vararg)
                    self.assertIsNone(node.args.kwarg)
                    self.assertEqual(node.args.kwonlyargs + node.args.posonlyargs, [])

    def test_no_form_that_is_out(self):
        for name, node in NODES:
            with self.subTest(where(name, node)):
                self.assertNotIsInstance(node, OUT)
                if isinstance(node, (ast.For, ast.While)):
                    self.assertEqual(node.orelse, [])
                if isinstance(node, ast.Try):
                    self.assertEqual(node.finalbody, [])
                if isinstance(node, ast.Assign):
                    self.assertEqual(len(node.targets), 1)
                if isinstance(node, ast.Constant):
                    self.assertNotIsInstance(node.value, (float, complex, bytes))
                    self.assertNotIn("%", str(node.value))

    def test_names_are_plain(self):
        for name, node in NODES:
            for told in names_in(node):
                if told not in METHODS:
                    with self.subTest(where(name, node)):
                        self.assertRegex(told, r"\A[A-Za-z][A-Za-z0-9_]*\Z")
                        self.assertNotIn(told, UNUSED)

    def test_of_python_s_own_names_only_the_listed_ones(self):
        for name, node in NODES:
            with self.subTest(where(name, node)):
                if isinstance(node, ast.Name) and hasattr(builtins, node.id):
                    self.assertIn(node.id, BUILT_IN)
                    self.assertIsInstance(node.ctx, ast.Load)
                if isinstance(node, ast.arg):
                    self.assertFalse(hasattr(builtins, node.arg))

    def test_of_python_s_own_methods_only_the_listed_ones(self):
        methods = own_methods()
        for name, node in NODES:
            if isinstance(node, ast.Call) and isinstance(node.func, ast.Attribute):
                with self.subTest(where(name, node)):
                    self.assertIn(node.func.attr, OWN_OF_PYTHON | methods)

    def test_no_annotations(self):
        for name, node in NODES:
            with self.subTest(where(name, node)):
                if isinstance(node, ast.arg):
                    self.assertIsNone(node.annotation)
                if isinstance(node, ast.FunctionDef):
                    self.assertIsNone(node.returns)

    def test_is_stands_beside_none_true_and_false_alone(self):
        for name, node in NODES:
            if isinstance(node, ast.Compare):
                for op, value in zip(node.ops, node.comparators):
                    if isinstance(op, (ast.Is, ast.IsNot)):
                        with self.subTest(where(name, node)):
                            self.assertIsInstance(value, ast.Constant)
                            self.assertIn(value.value, (None, True, False))

    def test_errors_are_taken_by_their_own_names(self):
        for name, node in NODES:
            if isinstance(node, ast.ExceptHandler):
                with self.subTest(where(name, node)):
                    self.assertIsNotNone(node.type)
                    caught = {inner.id for inner in ast.walk(node.type) if isinstance(inner, ast.Name)}
                    self.assertEqual(caught & {"Exception", "BaseException", "TypeError"}, set())
            if isinstance(node, ast.Raise):
                with self.subTest(where(name, node)):
                    self.assertIsInstance(node.exc, ast.Call)

    def test_braces_of_f_strings_hold_plain_names(self):
        for name, node in NODES:
            if isinstance(node, ast.FormattedValue):
                with self.subTest(where(name, node)):
                    self.assertIsInstance(node.value, ast.Name)
                    self.assertIn(node.conversion, (-1, ord("r")))
                    self.assertIsNone(node.format_spec)


if __name__ == "__main__":
    unittest.main()
