"""The package keeps to the small part of Python that LANGUAGE.md tells.

Each check names its rule. What no check here sees is still to be kept.
"""

import ast
import builtins
import pathlib
import re
import unittest

PACKAGE = pathlib.Path(__file__).resolve().parent.parent / "floorunroll"

BUILT_IN = set(
    "len range enumerate zip min max sum abs sorted reversed int str bool list tuple dict set frozenset isinstance"
    " ord repr any all divmod Exception ValueError TypeError KeyError IndexError LookupError ZeroDivisionError"
    " ArithmeticError OverflowError RuntimeError NotImplementedError AttributeError StopIteration".split())

METHODS = set(
    "append clear copy count endswith extend find get index insert isalnum isalpha isdigit islower isspace isupper"
    " items join keys ljust lower lstrip partition pop remove replace reverse rfind rjust rpartition rsplit rstrip"
    " setdefault split splitlines startswith strip update upper values zfill bit_length".split())

OUT_NAMES = set(
    "register mro elements open input version_info with_traceback add_note attrgetter breakpoint builtins compile"
    " copyright credits delattr dir eval exec exit gc getattr globals hasattr help id importlib license locals"
    " methodcaller os quit setattr super type vars sys format format_map chr print".split())

OUT_WORDS = re.compile(
    r"\b(type|typing|typing_extensions|enum|Enum|IntEnum|StrEnum|Flag|IntFlag|Generic|Protocol|ABC|ABCMeta|namedtuple"
    r"|NamedTuple|TypedDict|TYPE_CHECKING|abstractmethod)\b|dataclass|overload|contextmanager")

TWO_UNDERSCORES = ("__init__", "__eq__", "__repr__", "__str__", "__len__", "__all__", "__version__")

NODES = tuple(getattr(ast, name) for name in (
    "Module FunctionDef arguments arg Lambda ClassDef Assign AugAssign If While For Return Break Continue Pass Raise"
    " Try ExceptHandler Expr ImportFrom alias Name Constant List Tuple Dict Set BinOp UnaryOp BoolOp Compare IfExp"
    " Call keyword Attribute Subscript Slice ListComp comprehension JoinedStr FormattedValue"
    " expr_context operator unaryop boolop cmpop").split())

# What a value of a file's top is made of.
PLAIN = (ast.Constant, ast.UnaryOp, ast.USub, ast.Tuple, ast.Name, ast.Load)


def trees():
    """Each file of the package with what it says."""
    for path in sorted(PACKAGE.rglob("*.py")):
        yield path, ast.parse(path.read_text(encoding="utf-8"))


def bound_names(tree):
    """Every name that a file binds, wherever."""
    for node in ast.walk(tree):
        if isinstance(node, (ast.FunctionDef, ast.ClassDef)):
            yield node.name
        elif isinstance(node, ast.arg):
            yield node.arg
        elif isinstance(node, ast.Name) and isinstance(node.ctx, ast.Store):
            yield node.id
        elif isinstance(node, ast.Attribute) and isinstance(node.ctx, ast.Store):
            yield node.attr


class TheFiles(unittest.TestCase):
    def test_l1_l14_files(self):
        found = [path for path in PACKAGE.rglob("*") if "__pycache__" not in path.parts]
        self.assertIn(PACKAGE / "picture.py", found)
        for path in found:
            self.assertTrue(path.is_file(), path)
            self.assertRegex(path.name, r"^(__init__|[a-z][a-z0-9_]*)\.py$")
            self.assertNotIn(path.stem, dir(builtins))

    def test_l10_l14_signs_and_sizes(self):
        for path in PACKAGE.rglob("*.py"):
            text = path.read_bytes().decode("utf-8")
            self.assertEqual([sign for sign in text if sign != "\n" and not " " <= sign <= "~"], [], path)
            rows = text.splitlines()
            self.assertLessEqual(len(rows), 400, path)
            self.assertLessEqual(max([len(row) for row in rows]), 120, path)

    def test_l17_words(self):
        for path in PACKAGE.rglob("*.py"):
            self.assertIsNone(OUT_WORDS.search(path.read_text(encoding="utf-8")), path)


class TheCode(unittest.TestCase):
    def test_l6_l7_nodes(self):
        for path, tree in trees():
            for node in ast.walk(tree):
                self.assertIsInstance(node, NODES, (path, getattr(node, "lineno", 0)))
                self.assertFalse(isinstance(node, (ast.Div, ast.MatMult)), path)
                if isinstance(node, ast.Constant):
                    self.assertIn(type(node.value), (int, str, bool, type(None)), (path, node.lineno))
                if isinstance(node, ast.Assign):
                    self.assertEqual(len(node.targets), 1, (path, node.lineno))
                if isinstance(node, (ast.For, ast.While)):
                    self.assertEqual(node.orelse, [], (path, node.lineno))
                if isinstance(node, ast.ListComp):
                    self.assertEqual(len(node.generators), 1, (path, node.lineno))
                    self.assertLessEqual(len(node.generators[0].ifs), 1, (path, node.lineno))

    def test_l2_l16_imports(self):
        for path, tree in trees():
            for node in ast.walk(tree):
                if isinstance(node, ast.ImportFrom):
                    self.assertIn(node, tree.body, path)
                    self.assertEqual(node.level, 0, path)
                    self.assertTrue(node.module.startswith("floorunroll."), path)
                    self.assertNotIn("*", [each.name for each in node.names], path)
        self.assertEqual(len(ast.parse((PACKAGE / "__init__.py").read_text()).body), 1)

    def test_l3_l15_the_top_of_a_file(self):
        for path, tree in trees():
            names = []
            for at, node in enumerate(tree.body):
                kinds = (ast.FunctionDef, ast.ClassDef, ast.Assign, ast.ImportFrom)
                docstring = at == 0 and isinstance(node, ast.Expr) and isinstance(node.value, ast.Constant)
                self.assertTrue(docstring or isinstance(node, kinds), (path, node.lineno))
                if isinstance(node, (ast.FunctionDef, ast.ClassDef)):
                    names.append(node.name)
                if isinstance(node, ast.Assign):
                    self.assertIsInstance(node.targets[0], ast.Name, (path, node.lineno))
                    names.append(node.targets[0].id)
            self.assertEqual(len(names), len(set(names)), path)

    def test_l3_values_of_the_top(self):
        for path, tree in trees():
            above = []
            for node in tree.body:
                if isinstance(node, ast.FunctionDef):
                    above.append(node.name)
                if isinstance(node, ast.Assign):
                    for inner in ast.walk(node.value):
                        self.assertIsInstance(inner, PLAIN, (path, node.lineno))
                        if isinstance(inner, ast.Name):
                            self.assertIn(inner.id, above, (path, node.lineno))

    def test_l22_l23_calls_of_pythons_own(self):
        for path, tree in trees():
            walked = []
            for node in ast.walk(tree):
                if isinstance(node, (ast.For, ast.comprehension)):
                    walked.append(node.iter)
            for node in ast.walk(tree):
                if isinstance(node, ast.Call):
                    self.assertEqual(node.keywords, [], (path, node.lineno))
                    if isinstance(node.func, ast.Name) and node.func.id in ("range", "zip", "enumerate", "reversed"):
                        self.assertIn(node, walked, (path, node.lineno))
                    if isinstance(node.func, ast.Name):
                        self.assertNotIn(node.func.id, ("set", "frozenset"), (path, node.lineno))
                self.assertFalse(isinstance(node, (ast.Set, ast.Try, ast.Lambda)), path)

    def test_it_imports_nothing(self):
        for path, tree in trees():
            for node in ast.walk(tree):
                self.assertFalse(isinstance(node, (ast.Import, ast.ImportFrom)), path)

    def test_l4_l10_functions(self):
        for path, tree in trees():
            for node in ast.walk(tree):
                if isinstance(node, ast.FunctionDef):
                    self.assertLessEqual(node.end_lineno - node.lineno + 1, 40, (path, node.name))
                    self.assertEqual(node.decorator_list, [], (path, node.name))
                    told = node.args
                    self.assertIsNone(told.vararg or told.kwarg or node.returns, (path, node.name))
                    self.assertEqual(told.kwonlyargs + told.posonlyargs, [], (path, node.name))

    def test_l5_classes(self):
        for path, tree in trees():
            for node in ast.walk(tree):
                if isinstance(node, ast.ClassDef):
                    self.assertIn(node, tree.body, (path, node.name))
                    self.assertEqual(node.decorator_list + node.keywords, [], (path, node.name))
                    self.assertLessEqual(len(node.bases), 1, (path, node.name))
                    for inner in node.body[1:]:
                        self.assertIsInstance(inner, ast.FunctionDef, (path, node.name))

    def test_l8_l12_l15_l17_names(self):
        for path, tree in trees():
            bound = set(bound_names(tree))
            for name in bound:
                self.assertNotIn(name, dir(builtins), path)
                self.assertNotIn(name, OUT_NAMES, path)
                self.assertTrue(name in TWO_UNDERSCORES or not name.startswith("_"), (path, name))
            imported = {each.name for node in ast.walk(tree) if isinstance(node, ast.ImportFrom) for each in node.names}
            for node in ast.walk(tree):
                if isinstance(node, ast.Name):
                    self.assertIn(node.id, bound | imported | BUILT_IN, (path, node.lineno))

    def test_l25_l26_methods(self):
        for path, tree in trees():
            own = {name for name in bound_names(tree)}
            for node in ast.walk(tree):
                if isinstance(node, ast.Attribute):
                    self.assertIn(node.attr, own | METHODS, (path, node.lineno))

    def test_l20_is(self):
        for path, tree in trees():
            for node in ast.walk(tree):
                if isinstance(node, ast.Compare) and any(isinstance(op, (ast.Is, ast.IsNot)) for op in node.ops):
                    self.assertIsInstance(node.comparators[0], ast.Constant, (path, node.lineno))

    def test_l27_powers(self):
        for path, tree in trees():
            for node in ast.walk(tree):
                if isinstance(node, ast.BinOp) and isinstance(node.op, ast.Pow):
                    self.assertIsInstance(node.right, ast.Constant, (path, node.lineno))
                    self.assertIn(node.right.value, range(65), (path, node.lineno))


if __name__ == "__main__":
    unittest.main()
