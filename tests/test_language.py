"""The package's own files keep to the small part of Python that the program is written in."""

import ast
import builtins
import keyword
import pathlib
import re
import unittest

PACKAGE = pathlib.Path(__file__).resolve().parent.parent / "threadwalk"

STATEMENTS = (
    ast.Assign, ast.AugAssign, ast.AnnAssign, ast.If, ast.While, ast.For, ast.Return, ast.Break, ast.Continue,
    ast.Pass, ast.Raise, ast.Try, ast.Expr, ast.FunctionDef, ast.ClassDef, ast.ImportFrom,
)
EXPRESSIONS = (
    ast.BoolOp, ast.BinOp, ast.UnaryOp, ast.Lambda, ast.IfExp, ast.Dict, ast.Set, ast.ListComp, ast.Compare,
    ast.Call, ast.JoinedStr, ast.FormattedValue, ast.Constant, ast.Attribute, ast.Subscript, ast.Name, ast.List,
    ast.Tuple, ast.Slice,
)
OWN_NAMES = set("""
    len range enumerate zip min max sum abs sorted reversed int str bool list tuple dict set frozenset isinstance
    ord repr any all divmod Exception ValueError TypeError KeyError IndexError LookupError ZeroDivisionError
    ArithmeticError OverflowError RuntimeError NotImplementedError AttributeError StopIteration
""".split())
OWN_FUNCTIONS = OWN_NAMES & set("""
    len range enumerate zip min max sum abs sorted reversed isinstance ord repr any all divmod set frozenset
""".split())
WALKED_AT_ONCE = ("range", "enumerate", "zip", "reversed", "items", "keys", "values")
WALKS_ITS_FIRST = ("list", "tuple", "dict", "sorted", "sum", "any", "all", "enumerate", "zip", "min", "max", "join")
OWN_METHODS = set("""
    append clear copy count endswith extend find get index insert isalnum isalpha isdigit islower isspace isupper
    items join keys ljust lower lstrip partition pop remove replace reverse rfind rjust rpartition rsplit rstrip
    setdefault split splitlines startswith strip update upper values zfill bit_length
""".split())
METHODS_WITH_UNDERSCORES = ("__init__", "__eq__", "__repr__", "__str__", "__len__")
WORDS_NOWHERE = r"\b(type|typing|typing_extensions|enum|Enum|IntEnum|StrEnum|Flag|IntFlag|Generic|Protocol|ABC" \
    r"|ABCMeta|namedtuple|NamedTuple|TypedDict|TYPE_CHECKING|abstractmethod)\b|dataclass|overload|contextmanager"
NAMES_NOT_USED = set("""
    register mro elements open input version_info with_traceback add_note attrgetter breakpoint builtins compile
    copyright credits delattr dir eval exec exit gc getattr globals hasattr help id importlib license locals
    methodcaller os quit setattr super type vars sys format format_map
""".split())
INTERFACE = ("walk", "at", "lies", "finds", "next_side")


def sources():
    """Each file of the package: (path, text, tree)."""
    paths = sorted(PACKAGE.rglob("*.py"))
    return [(path, path.read_text("ascii"), ast.parse(path.read_text("ascii"))) for path in paths]


def called_name(node):
    """The name of what is called, of a function or of a method."""
    return node.func.attr if isinstance(node.func, ast.Attribute) else getattr(node.func, "id", None)


def bound_names(tree):
    """Every name that a file binds: functions, classes, parameters, names assigned or imported."""
    for node in ast.walk(tree):
        if isinstance(node, (ast.FunctionDef, ast.ClassDef)):
            yield node.name
        elif isinstance(node, ast.arg):
            yield node.arg
        elif isinstance(node, ast.Name) and isinstance(node.ctx, ast.Store):
            yield node.id
        elif isinstance(node, ast.alias):
            yield node.asname or node.name


class Language(unittest.TestCase):
    def each(self, *kinds):
        """Every node of these kinds in the package, and the file and line to tell where a test fails."""
        for path, _, tree in sources():
            for node in ast.walk(tree):
                if isinstance(node, kinds):
                    yield node, f"{path.name}, line {node.lineno}"

    def test_files(self):
        self.assertTrue((PACKAGE / "__init__.py").is_file())
        for path in PACKAGE.rglob("*"):
            if "__pycache__" not in path.parts:
                self.assertRegex(path.name, r"^([a-z][a-z0-9_]*|__init__)\.py$")
                self.assertNotRegex(path.stem, r"^(tests?|testing|test_.*|site|conftest|(site|user)customize)$")
                self.assertNotIn(path.stem, dir(builtins))

    def test_signs_and_sizes(self):
        for path, text, tree in sources():
            with self.subTest(file=path.name):
                self.assertRegex(text, r"\A[ -~\n]*\Z")
                self.assertLessEqual(text.count("\n"), 399)
                self.assertLessEqual(max(len(line) for line in text.split("\n")), 120)
                self.assertIsNone(re.search(WORDS_NOWHERE, text))
        for node, where in self.each(ast.FunctionDef):
            self.assertLessEqual(node.end_lineno - node.lineno + 1, 40, where)

    def test_imports_are_of_the_package_alone(self):
        for node, where in self.each(ast.Import, ast.ImportFrom):
            self.assertIsInstance(node, ast.ImportFrom, where)
            self.assertEqual(node.level, 0, where)
            self.assertEqual(node.module.split(".")[0], "threadwalk", where)
            home = PACKAGE / (node.module.split(".", 1)[1] + ".py")
            self.assertTrue(home.is_file(), where)
            for alias in node.names:
                self.assertIn(alias.name, self.defined_at_top(ast.parse(home.read_text("ascii"))), where)

    def test_no_file_draws_from_itself_by_others(self):
        draws = {}
        for path, _, tree in sources():
            imports = [node for node in ast.walk(tree) if isinstance(node, ast.ImportFrom)]
            draws[path.stem] = {node.module.split(".", 1)[1] for node in imports}
        while draws:
            free = [name for name, others in draws.items() if not others & set(draws)]
            self.assertTrue(free, draws)
            for name in free:
                del draws[name]

    def defined_at_top(self, tree):
        names = [node.name for node in tree.body if isinstance(node, (ast.FunctionDef, ast.ClassDef))]
        for node in tree.body:
            if isinstance(node, ast.Assign):
                names.append(node.targets[0].id)
        return names

    def test_tops_of_files(self):
        for path, _, tree in sources():
            with self.subTest(file=path.name):
                self.assertTrue(ast.get_docstring(tree))
                for node in tree.body[1:]:
                    self.assertIsInstance(node, (ast.ImportFrom, ast.FunctionDef, ast.ClassDef, ast.Assign))
                names = self.defined_at_top(tree)
                self.assertEqual(len(names), len(set(names)))

    def test_the_interface_stands_in_its_file_alone(self):
        for path, _, tree in sources():
            for name in INTERFACE:
                self.assertEqual(name in self.defined_at_top(tree), path.name == "desk.py")

    def test_statements_and_expressions(self):
        for node, where in self.each(ast.stmt, ast.expr):
            self.assertIsInstance(node, STATEMENTS + EXPRESSIONS, where)
        for node, where in self.each(ast.Constant):
            self.assertIn(type(node.value), (int, str, bool, type(None)), where)
        for node, where in self.each(ast.BinOp, ast.AugAssign):
            self.assertNotIsInstance(node.op, (ast.Div, ast.MatMult), where)
        for node, where in self.each(ast.Assign):
            self.assertEqual(len(node.targets), 1, where)
        for node, where in self.each(ast.For, ast.While):
            self.assertEqual(node.orelse, [], where)
        for node, where in self.each(ast.Expr):
            self.assertIsInstance(node.value, (ast.Call, ast.Constant), where)
        for node, where in self.each(ast.ListComp):
            self.assertEqual(len(node.generators), 1, where)
            self.assertLessEqual(len(node.generators[0].ifs), 1, where)
        for node, where in self.each(ast.Compare):
            for operator, right in zip(node.ops, node.comparators):
                if isinstance(operator, (ast.Is, ast.IsNot)):
                    self.assertIsInstance(right, ast.Constant, where)

    def test_functions_and_classes(self):
        for node, where in self.each(ast.FunctionDef):
            self.assertEqual(node.decorator_list, [], where)
            self.assertTrue(ast.get_docstring(node) or node.name == "__init__", where)
            self.assertIsNone(node.args.vararg, where)
            self.assertIsNone(node.args.kwarg, where)
            self.assertEqual(node.args.kwonlyargs, [], where)
        for node, where in self.each(ast.ClassDef):
            self.assertEqual(node.decorator_list, [], where)
            self.assertLessEqual(len(node.bases), 1, where)

    def test_no_annotations(self):
        for node, where in self.each(ast.FunctionDef):
            self.assertIsNone(node.returns, where)
        for node, where in self.each(ast.arg):
            self.assertIsNone(node.annotation, where)
        for _, where in self.each(ast.AnnAssign):
            self.fail(where)

    def test_own_functions_of_python_are_called(self):
        for path, _, tree in sources():
            called = {node.func for node in ast.walk(tree) if isinstance(node, ast.Call)}
            for node in ast.walk(tree):
                if isinstance(node, ast.Name) and node.id in OWN_FUNCTIONS:
                    self.assertIn(node, called, f"{path.name}, line {node.lineno}")

    def test_what_is_walked_at_once_is_not_kept(self):
        for path, _, tree in sources():
            walked = self.walked_on_the_spot(tree)
            for node in ast.walk(tree):
                if isinstance(node, ast.Call) and called_name(node) in WALKED_AT_ONCE:
                    self.assertIn(node, walked, f"{path.name}, line {node.lineno}")

    def walked_on_the_spot(self, tree):
        walked = set()
        for node in ast.walk(tree):
            if isinstance(node, (ast.For, ast.comprehension)):
                walked.add(node.iter)
            elif isinstance(node, ast.Call) and called_name(node) in WALKS_ITS_FIRST:
                walked |= set(node.args[:1])
        return walked

    def test_no_local_is_called_like_a_class_or_an_import(self):
        for path, _, tree in sources():
            taken = {node.name for node in ast.walk(tree) if isinstance(node, ast.ClassDef)}
            for node in ast.walk(tree):
                if isinstance(node, ast.ImportFrom):
                    taken |= {alias.name for alias in node.names}
            for node in ast.walk(tree):
                if isinstance(node, ast.arg):
                    self.assertNotIn(node.arg, taken, path.name)
                elif isinstance(node, ast.Name) and isinstance(node.ctx, ast.Store):
                    self.assertNotIn(node.id, taken, path.name)

    def test_names(self):
        for path, _, tree in sources():
            for name in bound_names(tree):
                with self.subTest(file=path.name, name=name):
                    if name not in METHODS_WITH_UNDERSCORES:
                        self.assertRegex(name, r"^[A-Za-z][A-Za-z0-9_]*$")
                        self.assertNotIn(name, dir(builtins))
                        self.assertNotIn(name, NAMES_NOT_USED)
                        self.assertFalse(keyword.issoftkeyword(name))

    def test_built_in_names(self):
        for node, where in self.each(ast.Name):
            if node.id in dir(builtins):
                self.assertIn(node.id, OWN_NAMES, where)

    def test_methods_and_values(self):
        stored = set()
        methods = set()
        for _, _, tree in sources():
            for node in ast.walk(tree):
                if isinstance(node, ast.Attribute) and isinstance(node.ctx, ast.Store):
                    stored.add(node.attr)
                elif isinstance(node, ast.ClassDef):
                    methods |= {inner.name for inner in node.body if isinstance(inner, ast.FunctionDef)}
        self.assertFalse(stored & methods)
        for node, where in self.each(ast.Attribute):
            self.assertNotIn(node.attr, NAMES_NOT_USED, where)
            self.assertIn(node.attr, OWN_METHODS | stored | methods, where)
