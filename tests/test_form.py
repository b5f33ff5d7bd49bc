"""The form of the package's own files, as far as a short look can tell it.

With no import from outside and none of Python's names that reach outside,
the package can't come to a clock, to chance, or to a file.
"""

import ast
import builtins
import pathlib
import re
import unittest

PACKAGE = pathlib.Path(__file__).resolve().parent.parent / "seatturn"

ALLOWED = set(
    "len range enumerate zip min max sum abs sorted reversed int str bool list tuple dict set frozenset "
    "isinstance ord repr any all divmod Exception ValueError TypeError KeyError IndexError LookupError "
    "ZeroDivisionError ArithmeticError OverflowError RuntimeError NotImplementedError AttributeError "
    "StopIteration".split()
)
BANNED_WORDS = re.compile(
    r"\b(type|typing|typing_extensions|enum|Enum|IntEnum|StrEnum|Flag|IntFlag|Generic|Protocol|ABC|ABCMeta"
    r"|namedtuple|NamedTuple|TypedDict|TYPE_CHECKING|abstractmethod)\b|dataclass|overload|contextmanager"
)
METHODS = set(
    "append clear copy count endswith extend find get index insert isalnum isalpha isdigit islower isspace isupper "
    "items join keys ljust lower lstrip partition pop remove replace reverse rfind rjust rpartition rsplit rstrip "
    "setdefault split splitlines startswith strip update upper values zfill bit_length".split()
)
STATEMENTS = (
    ast.FunctionDef, ast.ClassDef, ast.ImportFrom, ast.Assign, ast.AugAssign, ast.If, ast.While, ast.For,
    ast.Return, ast.Break, ast.Continue, ast.Pass, ast.Raise, ast.Try, ast.Expr,
)
EXPRESSIONS = (
    ast.Constant, ast.Name, ast.List, ast.Tuple, ast.Dict, ast.BinOp, ast.UnaryOp, ast.BoolOp, ast.Compare,
    ast.IfExp, ast.Call, ast.Attribute, ast.Subscript, ast.Slice, ast.ListComp, ast.Lambda, ast.JoinedStr,
    ast.FormattedValue,
)


def files():
    return sorted(path for path in PACKAGE.rglob("*") if path.is_file() and "__pycache__" not in path.parts)


def nodes(path):
    return list(ast.walk(ast.parse(path.read_text(encoding="utf-8"))))


class Form(unittest.TestCase):
    def test_files(self):
        names = [path.relative_to(PACKAGE).as_posix() for path in files()]
        for name in ("__init__.py", "errors.py", "ranks.py", "reach.py", "rings.py", "turnings.py"):
            self.assertIn(name, names)
        for name in names:
            self.assertRegex(name, r"\A[a-z0-9_]+\.py\Z")

    def test_signs_and_sizes(self):
        for path in files():
            text = path.read_bytes().decode("utf-8")
            with self.subTest(path.name):
                self.assertIsNone(re.search(r"[^ -~\n]", text))
                self.assertLessEqual(len(text.splitlines()), 400)
                self.assertLessEqual(max(map(len, text.splitlines()), default=0), 120)

    def test_functions_are_small(self):
        for path in files():
            for node in nodes(path):
                if isinstance(node, ast.FunctionDef):
                    with self.subTest(path.name, function=node.name):
                        self.assertLessEqual(node.end_lineno - node.lineno + 1, 40)

    def test_words_that_stand_nowhere(self):
        for path in files():
            with self.subTest(path.name):
                self.assertIsNone(BANNED_WORDS.search(path.read_text(encoding="utf-8")))

    def test_imports_are_the_package_s_own(self):
        for path in files():
            for node in nodes(path):
                with self.subTest(path.name):
                    self.assertNotIsInstance(node, ast.Import)
                    if isinstance(node, ast.ImportFrom):
                        self.assertEqual(node.level, 0)
                        self.assertTrue(node.module.startswith("seatturn."))

    def test_python_s_own_names(self):
        for path in files():
            for node in nodes(path):
                if isinstance(node, ast.Name) and hasattr(builtins, node.id):
                    with self.subTest(path.name, name=node.id):
                        self.assertIn(node.id, ALLOWED)

    def test_statements_and_expressions(self):
        for path in files():
            for node in nodes(path):
                with self.subTest(path.name, line=getattr(node, "lineno", 0)):
                    if isinstance(node, ast.stmt):
                        self.assertIsInstance(node, STATEMENTS)
                    if isinstance(node, ast.expr):
                        self.assertIsInstance(node, EXPRESSIONS)
                    if isinstance(node, ast.Constant):
                        self.assertIn(type(node.value), (int, str, bool, type(None)))
                    self.assertNotIsInstance(node, (ast.Div, ast.MatMult))

    def test_narrower_forms(self):
        for path in files():
            for node in nodes(path):
                with self.subTest(path.name, line=getattr(node, "lineno", 0)):
                    if isinstance(node, ast.Assign):
                        self.assertEqual(len(node.targets), 1)
                        self.assertNotIsInstance(node.targets[0], (ast.Tuple, ast.List))
                    if isinstance(node, (ast.For, ast.While)):
                        self.assertEqual(node.orelse, [])
                    if isinstance(node, (ast.FunctionDef, ast.ClassDef)):
                        self.assertEqual(node.decorator_list, [])
                    if isinstance(node, ast.arguments):
                        self.assertEqual((node.vararg, node.kwarg, node.kwonlyargs), (None, None, []))

    def test_methods(self):
        for path in files():
            for node in nodes(path):
                if isinstance(node, ast.Call) and isinstance(node.func, ast.Attribute):
                    with self.subTest(path.name, method=node.func.attr):
                        self.assertIn(node.func.attr, METHODS)

    def test_names(self):
        for path in files():
            tree = nodes(path)
            brought = [name.name for node in tree if isinstance(node, ast.ImportFrom) for name in node.names]
            for node in tree:
                with self.subTest(path.name, line=getattr(node, "lineno", 0)):
                    if isinstance(node, (ast.FunctionDef, ast.ClassDef)):
                        self.assertRegex(node.name, r"\A[A-Za-z][A-Za-z0-9_]*\Z")
                    if isinstance(node, ast.arg) or isinstance(node, ast.Name) and isinstance(node.ctx, ast.Store):
                        name = node.arg if isinstance(node, ast.arg) else node.id
                        self.assertRegex(name, r"\A[A-Za-z][A-Za-z0-9_]*\Z")
                        self.assertFalse(hasattr(builtins, name))
                        self.assertNotIn(name, brought)

    def test_imports_come_from_the_file_that_defines_the_name(self):
        for path in files():
            for node in nodes(path):
                if isinstance(node, ast.ImportFrom):
                    source = PACKAGE.parent.joinpath(*node.module.split(".")).with_suffix(".py")
                    top = ast.parse(source.read_text(encoding="utf-8")).body
                    defined = [each.name for each in top if isinstance(each, (ast.FunctionDef, ast.ClassDef))]
                    for alias in node.names:
                        with self.subTest(path.name, name=alias.name):
                            self.assertIn(alias.name, defined)


if __name__ == "__main__":
    unittest.main()
