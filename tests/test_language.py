"""The form of the package's files: what of the language's rules a walk through the source can see."""

import ast
import builtins
import pathlib
import re
import unittest

PACKAGE = pathlib.Path(__file__).resolve().parent.parent / "pointyard"

STATEMENTS = (
    ast.Assign, ast.AugAssign, ast.If, ast.While, ast.For, ast.Return, ast.Break, ast.Continue, ast.Pass,
    ast.Raise, ast.Try, ast.Expr, ast.FunctionDef, ast.ClassDef, ast.ImportFrom,
)
EXPRESSIONS = (
    ast.Constant, ast.List, ast.Tuple, ast.Dict, ast.BinOp, ast.UnaryOp, ast.BoolOp, ast.Compare, ast.IfExp,
    ast.Call, ast.Attribute, ast.Subscript, ast.Slice, ast.ListComp, ast.JoinedStr, ast.FormattedValue,
    ast.Name, ast.Lambda,
)
BUILTINS = set(
    "len range enumerate zip min max sum abs sorted reversed int str bool list tuple dict set frozenset isinstance "
    "ord repr any all divmod Exception ValueError TypeError KeyError IndexError LookupError ZeroDivisionError "
    "ArithmeticError OverflowError RuntimeError NotImplementedError AttributeError StopIteration".split()
)
METHODS = set(
    "append clear copy count endswith extend find get index insert isalnum isalpha isdigit islower isspace isupper "
    "items join keys ljust lower lstrip partition pop remove replace reverse rfind rjust rpartition rsplit rstrip "
    "setdefault split splitlines startswith strip update upper values zfill bit_length".split()
)
TWO_UNDERSCORES = ("__init__", "__eq__", "__repr__", "__str__", "__len__")
WORDS_NOWHERE = re.compile(
    r"\b(type|typing|typing_extensions|enum|Enum|IntEnum|StrEnum|Flag|IntFlag|Generic|Protocol|ABC|ABCMeta|namedtuple"
    r"|NamedTuple|TypedDict|TYPE_CHECKING|abstractmethod)\b|dataclass|overload|contextmanager"
)
OWN_OF_PYTHON = set(dir(builtins))
NAMES_NOT_USED = set(
    "register mro elements open input version_info with_traceback add_note format format_map attrgetter gc os sys "
    "importlib methodcaller builtins".split()
)


def sources():
    return sorted(PACKAGE.rglob("*.py"))


def trees():
    return [ast.parse(path.read_text(encoding="utf-8"), str(path)) for path in sources()]


def nodes():
    """Each node of each file, with the place to tell where it is wrong."""
    for path, tree in zip(sources(), trees()):
        for node in ast.walk(tree):
            place = getattr(node, "lineno", "?")
            yield f"{path.name}:{place}", node


def bound_names(tree):
    """Names that the file gives a meaning to, but for methods and values of objects."""
    for node in ast.walk(tree):
        if isinstance(node, ast.Name) and isinstance(node.ctx, ast.Store):
            yield node.id
        elif isinstance(node, ast.arg):
            yield node.arg
        elif isinstance(node, ast.alias):
            yield node.asname or node.name
        elif isinstance(node, ast.ExceptHandler) and node.name:
            yield node.name
    for node in tree.body:
        if isinstance(node, (ast.FunctionDef, ast.ClassDef)):
            yield node.name


def names_at_the_top(tree):
    """Names that the file itself defines, each as often as it does so."""
    found = []
    for node in tree.body:
        if isinstance(node, (ast.FunctionDef, ast.ClassDef)):
            found.append(node.name)
        elif isinstance(node, ast.Assign):
            found += [target.id for target in node.targets]
    return found


class LanguageTest(unittest.TestCase):
    def test_only_plain_files_lie_in_the_package(self):
        lying = [path for path in PACKAGE.rglob("*") if "__pycache__" not in path.parts]
        self.assertEqual(sorted(lying), sources())
        for path in sources():
            self.assertRegex(path.name, r"\A[a-z0-9_]+\.py\Z")
        self.assertTrue((PACKAGE / "__init__.py").is_file())

    def test_signs_and_sizes(self):
        for path in sources():
            with self.subTest(file=path.name):
                text = path.read_bytes().decode("ascii")
                self.assertTrue(all(sign == "\n" or " " <= sign <= "~" for sign in text))
                self.assertLessEqual(len(text.splitlines()), 400)
                self.assertLessEqual(max([len(line) for line in text.splitlines()], default=0), 120)
                self.assertIsNone(WORDS_NOWHERE.search(text))
        for where, node in nodes():
            if isinstance(node, ast.FunctionDef):
                self.assertLessEqual(node.end_lineno - node.lineno + 1, 40, where)

    def test_statements_and_expressions(self):
        for where, node in nodes():
            if isinstance(node, ast.stmt):
                self.assertIsInstance(node, STATEMENTS, where)
            elif isinstance(node, ast.expr):
                self.assertIsInstance(node, EXPRESSIONS, where)
            if isinstance(node, (ast.For, ast.While)):
                self.assertEqual(node.orelse, [], where)
            elif isinstance(node, ast.Assign):
                self.assertEqual(len(node.targets), 1, where)
            elif isinstance(node, ast.ListComp):
                self.assertEqual(len(node.generators), 1, where)
                self.assertLessEqual(len(node.generators[0].ifs), 1, where)
            elif isinstance(node, ast.Constant):
                self.assertNotIsInstance(node.value, (float, bytes, complex), where)
            elif isinstance(node, ast.BinOp):
                self.assertNotIsInstance(node.op, (ast.Div, ast.MatMult), where)
            elif isinstance(node, ast.FormattedValue):
                self.assertIsInstance(node.value, ast.Name, where)
                self.assertIsNone(node.format_spec, where)

    def test_plain_functions_and_classes(self):
        for where, node in nodes():
            if isinstance(node, ast.FunctionDef):
                self.assertEqual(node.decorator_list, [], where)
                self.assertIsNone(node.args.vararg or node.args.kwarg, where)
                self.assertEqual(node.args.kwonlyargs + node.args.posonlyargs, [], where)
                self.assertTrue(not node.name.startswith("_") or node.name in TWO_UNDERSCORES, where)
            elif isinstance(node, ast.ClassDef):
                self.assertEqual(node.decorator_list, [], where)
                self.assertLessEqual(len(node.bases), 1, where)
                for part in node.body:
                    self.assertIsInstance(part, (ast.FunctionDef, ast.Pass), where)

    def test_imports_are_from_the_package_at_the_top(self):
        for tree in trees():
            for node in ast.walk(tree):
                if isinstance(node, ast.ImportFrom):
                    self.assertIn(node, tree.body)
                    self.assertEqual(node.level, 0)
                    self.assertTrue(node.module.startswith("pointyard."), node.module)
                    self.assertNotIn("*", [alias.name for alias in node.names])

    def test_imports_are_from_the_file_that_defines_the_name_and_in_no_circle(self):
        drawn = {}
        for path, tree in zip(sources(), trees()):
            rows = [node for node in tree.body if isinstance(node, ast.ImportFrom)]
            drawn[path.stem] = [row.module.split(".")[-1] for row in rows]
            for row in rows:
                origin = PACKAGE / (row.module.split(".")[-1] + ".py")
                defined = names_at_the_top(ast.parse(origin.read_text(encoding="utf-8")))
                for alias in row.names:
                    self.assertIsNone(alias.asname)
                    self.assertIn(alias.name, defined)
        while drawn:
            ready = [name for name in drawn if not any(other in drawn for other in drawn[name])]
            self.assertNotEqual(ready, [], drawn)
            drawn.pop(ready[0])

    def test_the_top_of_a_file(self):
        for tree in trees():
            for node in tree.body:
                docstring = isinstance(node, ast.Expr) and isinstance(node.value, ast.Constant)
                plain = isinstance(node, (ast.ImportFrom, ast.FunctionDef, ast.ClassDef, ast.Assign))
                self.assertTrue(docstring or plain)
            tops = names_at_the_top(tree)
            imported = [alias.name for node in tree.body if isinstance(node, ast.ImportFrom) for alias in node.names]
            self.assertEqual(len(tops + imported), len(set(tops + imported)))
            classes = [node.name for node in tree.body if isinstance(node, ast.ClassDef)]
            for node in ast.walk(tree):
                if isinstance(node, ast.arg):
                    self.assertNotIn(node.arg, imported + classes)
                elif isinstance(node, ast.Name) and isinstance(node.ctx, ast.Store):
                    self.assertNotIn(node.id, imported + classes)
                elif isinstance(node, (ast.Global, ast.Nonlocal)):
                    self.fail("a name of the file's top is given another value")

    def test_names(self):
        for tree in trees():
            bound = list(bound_names(tree))
            for name in bound:
                self.assertFalse(name.startswith("_"), name)
                self.assertNotIn(name, OWN_OF_PYTHON)
                self.assertNotIn(name, NAMES_NOT_USED)
            for node in ast.walk(tree):
                if isinstance(node, ast.Name) and isinstance(node.ctx, ast.Load):
                    self.assertTrue(node.id in bound or node.id in BUILTINS, node.id)
                elif isinstance(node, ast.Attribute):
                    self.assertNotIn(node.attr, NAMES_NOT_USED)

    def test_methods_are_of_the_listed_ones_or_own(self):
        own = set()
        kept = set()
        for where, node in nodes():
            if isinstance(node, ast.ClassDef):
                own.update(part.name for part in node.body if isinstance(part, ast.FunctionDef))
            elif isinstance(node, ast.Attribute) and isinstance(node.ctx, ast.Store):
                kept.add(node.attr)
        self.assertEqual(own & kept, set())
        for where, node in nodes():
            if isinstance(node, ast.Call) and isinstance(node.func, ast.Attribute):
                self.assertIn(node.func.attr, own | METHODS, where)

    def test_is_stands_beside_none_true_and_false_alone(self):
        for where, node in nodes():
            if isinstance(node, ast.Compare) and any(isinstance(op, (ast.Is, ast.IsNot)) for op in node.ops):
                plain = [side for side in [node.left] + node.comparators if isinstance(side, ast.Constant)]
                self.assertTrue(any(side.value is None or isinstance(side.value, bool) for side in plain), where)


if __name__ == "__main__":
    unittest.main()
