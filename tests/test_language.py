"""The package's own files keep to ../shared/LANGUAGE.md, as far as their text shows it."""

import ast
import builtins
import pathlib
import re
import unittest

PACKAGE = pathlib.Path(__file__).resolve().parent.parent / "gatheredsurely"
FILES = sorted(PACKAGE.glob("**/*.py"))

STATEMENTS = (ast.Module, ast.FunctionDef, ast.ClassDef, ast.ImportFrom, ast.Assign, ast.AugAssign, ast.If, ast.While,
              ast.For, ast.Return, ast.Break, ast.Continue, ast.Pass, ast.Raise, ast.Try, ast.ExceptHandler, ast.Expr)
EXPRESSIONS = (ast.Constant, ast.Name, ast.List, ast.Tuple, ast.Dict, ast.BinOp, ast.UnaryOp, ast.Compare, ast.BoolOp,
               ast.IfExp, ast.Call, ast.Attribute, ast.Subscript, ast.Slice, ast.ListComp, ast.JoinedStr,
               ast.FormattedValue, ast.Lambda)
SMALL = (ast.arguments, ast.arg, ast.alias, ast.comprehension, ast.keyword, ast.expr_context, ast.boolop, ast.unaryop,
         ast.cmpop, ast.Add, ast.Sub, ast.Mult, ast.FloorDiv, ast.Mod, ast.BitAnd, ast.BitOr, ast.BitXor, ast.LShift,
         ast.RShift)
OWN_NAMES = set("""
    len range enumerate zip min max sum abs sorted reversed int str bool list tuple dict set frozenset isinstance ord
    repr any all divmod Exception ValueError TypeError KeyError IndexError LookupError ZeroDivisionError
    ArithmeticError OverflowError RuntimeError NotImplementedError AttributeError StopIteration
""".split())
METHODS = set("""
    append clear copy count endswith extend find get index insert isalnum isalpha isdigit islower isspace isupper items
    join keys ljust lower lstrip partition pop remove replace reverse rfind rjust rpartition rsplit rstrip setdefault
    split splitlines startswith strip update upper values zfill bit_length
""".split())
NO_WORDS = ("type|typing|typing_extensions|enum|Enum|IntEnum|StrEnum|Flag|IntFlag|Generic|Protocol|ABC|ABCMeta|"
            "namedtuple|NamedTuple|TypedDict|TYPE_CHECKING|abstractmethod")
NO_PARTS = "dataclass|overload|contextmanager"


def bound_names(tree):
    """All names that are parameters or assigned somewhere within functions."""
    for function in ast.walk(tree):
        if isinstance(function, ast.FunctionDef):
            for node in ast.walk(function):
                if isinstance(node, ast.arg):
                    yield node.arg
                if isinstance(node, ast.Name) and isinstance(node.ctx, ast.Store):
                    yield node.id


def trees():
    return [ast.parse(file.read_text(), file.name) for file in FILES]


class Language(unittest.TestCase):
    def test_there_is_the_package_and_nothing_else_in_it(self):
        self.assertIn(PACKAGE / "__init__.py", FILES)
        others = [path for path in PACKAGE.rglob("*") if path not in FILES and "__pycache__" not in path.parts]
        self.assertEqual([], others)

    def test_signs_and_sizes(self):
        for file in FILES:
            with self.subTest(file=file.name):
                text = file.read_bytes().decode("utf-8")
                self.assertRegex(text, r"\A[\n -~]*\Z")
                self.assertLessEqual(len(text.splitlines()), 400)
                self.assertLessEqual(max(map(len, text.splitlines()), default=0), 120)
                self.assertIsNone(re.search(rf"\b({NO_WORDS})\b|{NO_PARTS}", text))
                self.assertRegex(file.name, r"\A(__init__|[a-z][a-z0-9_]*)\.py\Z")

    def test_functions_are_short_and_plain(self):
        for tree in trees():
            for node in ast.walk(tree):
                if isinstance(node, ast.FunctionDef):
                    self.assertLessEqual(node.end_lineno - node.lineno + 1, 40, node.name)
                    self.assertEqual([], node.decorator_list)
                    arguments = node.args
                    self.assertFalse(arguments.vararg or arguments.kwarg or arguments.kwonlyargs)

    def test_only_the_forms_that_are_listed(self):
        for tree in trees():
            for node in ast.walk(tree):
                self.assertIsInstance(node, STATEMENTS + EXPRESSIONS + SMALL)
                if isinstance(node, ast.Assign):
                    self.assertEqual(1, len(node.targets))
                if isinstance(node, ast.ListComp):
                    self.assertEqual(1, len(node.generators))
                    self.assertLessEqual(len(node.generators[0].ifs), 1)
                if isinstance(node, (ast.For, ast.While)):
                    self.assertEqual([], node.orelse)
                if isinstance(node, ast.Try):
                    self.assertEqual([], node.finalbody)
                if isinstance(node, ast.Constant):
                    self.assertIn(type(node.value), (int, str, bool, type(None)))

    def test_imports_are_of_the_package_by_its_full_name(self):
        for tree in trees():
            for node in ast.walk(tree):
                if isinstance(node, ast.ImportFrom):
                    self.assertIn(node, tree.body)
                    self.assertEqual(0, node.level)
                    self.assertTrue(node.module.startswith("gatheredsurely."))
                    file = PACKAGE / (node.module.split(".")[1] + ".py")
                    defined = [ast.unparse(row.targets[0]) if isinstance(row, ast.Assign) else row.name
                               for row in ast.parse(file.read_text()).body
                               if isinstance(row, (ast.Assign, ast.FunctionDef, ast.ClassDef))]
                    for alias in node.names:
                        self.assertIn(alias.name, defined)

    def test_names(self):
        for tree in trees():
            taken = set(dir(builtins))
            for row in tree.body:
                if isinstance(row, ast.ImportFrom):
                    taken |= {alias.asname or alias.name for alias in row.names}
                if isinstance(row, ast.ClassDef):
                    taken.add(row.name)
            for name in bound_names(tree):
                self.assertNotIn(name, taken)
                self.assertRegex(name, r"\A[A-Za-z][A-Za-z0-9_]*\Z")
            for node in ast.walk(tree):
                if isinstance(node, ast.Name) and node.id in dir(builtins):
                    self.assertIn(node.id, OWN_NAMES)

    def test_methods_of_pythons_own_values(self):
        for tree in trees():
            for node in ast.walk(tree):
                if isinstance(node, ast.Call) and isinstance(node.func, ast.Attribute):
                    self.assertIn(node.func.attr, METHODS)

    def test_sets_are_only_sorted(self):
        for tree in trees():
            sorted_sets = [id(node.args[0]) for node in ast.walk(tree)
                           if isinstance(node, ast.Call) and ast.unparse(node.func) in ("sorted", "len")]
            for node in ast.walk(tree):
                if isinstance(node, ast.Call) and ast.unparse(node.func) in ("set", "frozenset"):
                    self.assertIn(id(node), sorted_sets)


if __name__ == "__main__":
    unittest.main()
