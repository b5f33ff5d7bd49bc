"""The form of the package's own files, as far as a short look can tell it.

With no import from outside and none of Python's names that reach outside,
the package can't come to a clock, to chance, or to a file.
"""

import ast
import builtins
import pathlib
import re
import unittest

PACKAGE = pathlib.Path(__file__).resolve().parent.parent / "seatturn"

ALLOWED = set(
    "len range enumerate zip min max sum abs sorted reversed int str bool list tuple dict set frozenset "
    "isinstance ord repr any all divmod Exception ValueError TypeError KeyError IndexError LookupError "
    "ZeroDivisionError ArithmeticError OverflowError RuntimeError NotImplementedError AttributeError "
    "StopIteration".split()
)
BANNED_WORDS = re.compile(
    r"\b(type|typing|typing_extensions|enum|Enum|IntEnum|StrEnum|Flag|IntFlag|Generic|Protocol|ABC|ABCMeta"
    r"|namedtuple|NamedTuple|TypedDict|TYPE_CHECKING|abstractmethod)\b|dataclass|overload|contextmanager"
)


def files():
    return sorted(path for path in PACKAGE.rglob("*") if path.is_file() and "__pycache__" not in path.parts)


def nodes(path):
    return list(ast.walk(ast.parse(path.read_text(encoding="utf-8"))))


class Form(unittest.TestCase):
    def test_files(self):
        names = [path.relative_to(PACKAGE).as_posix() for path in files()]
        for name in ("__init__.py", "errors.py", "turnings.py"):
            self.assertIn(name, names)
        for name in names:
            self.assertRegex(name, r"\A[a-z0-9_]+\.py\Z")

    def test_signs_and_sizes(self):
        for path in files():
            text = path.read_bytes().decode("utf-8")
            with self.subTest(path.name):
                self.assertIsNone(re.search(r"[^ -~\n]", text))
                self.assertLessEqual(len(text.splitlines()), 400)
                self.assertLessEqual(max(map(len, text.splitlines()), default=0), 120)

    def test_functions_are_small(self):
        for path in files():
            for node in nodes(path):
                if isinstance(node, ast.FunctionDef):
                    with self.subTest(path.name, function=node.name):
                        self.assertLessEqual(node.end_lineno - node.lineno + 1, 40)

    def test_words_that_stand_nowhere(self):
        for path in files():
            with self.subTest(path.name):
                self.assertIsNone(BANNED_WORDS.search(path.read_text(encoding="utf-8")))

    def test_imports_are_the_package_s_own(self):
        for path in files():
            for node in nodes(path):
                with self.subTest(path.name):
                    self.assertNotIsInstance(node, ast.Import)
                    if isinstance(node, ast.ImportFrom):
                        self.assertEqual(node.level, 0)
                        self.assertTrue(node.module.startswith("seatturn."))

    def test_python_s_own_names(self):
        for path in files():
            for node in nodes(path):
                if isinstance(node, ast.Name) and hasattr(builtins, node.id):
                    with self.subTest(path.name, name=node.id):
                        self.assertIn(node.id, ALLOWED)


if __name__ == "__main__":
    unittest.main()
