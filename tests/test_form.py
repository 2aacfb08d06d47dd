"""Point 1, read off the source: no clock, no chance, no files; and the plain rules of form."""

import ast
import builtins
import inspect
import pathlib
import re
import unittest

import pipeworks
from pipeworks import sums

FOLDER = pathlib.Path(pipeworks.__file__).parent

# The built-in names of rule L8; none of them reaches a clock, chance or a file.
ALLOWED = set("""
    len range enumerate zip min max sum abs sorted reversed int str bool list tuple dict set frozenset
    isinstance ord repr any all divmod Exception ValueError TypeError KeyError IndexError LookupError
    ZeroDivisionError ArithmeticError OverflowError RuntimeError NotImplementedError AttributeError StopIteration
""".split())

WORDS = re.compile(
    r"\b(type|typing|typing_extensions|enum|Enum|IntEnum|StrEnum|Flag|IntFlag|Generic|Protocol|ABC|ABCMeta"
    r"|namedtuple|NamedTuple|TypedDict|TYPE_CHECKING|abstractmethod)\b|dataclass|overload|contextmanager")


def sources():
    for path in sorted(FOLDER.glob("**/*.py")):
        yield path.name, path.read_text(encoding="utf-8")


def nodes(kind):
    for name, text in sources():
        for node in ast.walk(ast.parse(text)):
            if isinstance(node, kind):
                yield name, node


class Form(unittest.TestCase):
    def test_the_package_lies_beside_the_tests(self):
        self.assertEqual(FOLDER, pathlib.Path(__file__).resolve().parent.parent / "pipeworks")

    def test_only_plain_python_files(self):
        for path in FOLDER.iterdir():
            if path.name != "__pycache__":
                self.assertRegex(path.name, r"\A[a-z_][a-z0-9_]*\.py\Z")

    def test_only_the_packages_own_modules_are_imported(self):
        for name, node in nodes((ast.Import, ast.ImportFrom)):
            with self.subTest(file=name, line=node.lineno):
                self.assertIsInstance(node, ast.ImportFrom)
                self.assertEqual(node.level, 0)
                self.assertRegex(node.module, r"\Apipeworks\.[a-z_]+\Z")

    def test_no_other_built_in_name(self):
        for name, node in nodes(ast.Name):
            with self.subTest(file=name, line=node.lineno):
                self.assertFalse(node.id.startswith("_"))
                if hasattr(builtins, node.id):
                    self.assertIn(node.id, ALLOWED)
                    self.assertIsInstance(node.ctx, ast.Load)

    def test_size(self):
        for name, text in sources():
            self.assertLessEqual(len(text.split("\n")), 400, name)
            for line in text.split("\n"):
                self.assertLessEqual(len(line), 120, name)
        for name, node in nodes(ast.FunctionDef):
            self.assertLessEqual(node.end_lineno - node.lineno + 1, 40, f"{name}: {node.name}")

    def test_signs_and_words(self):
        for name, text in sources():
            self.assertRegex(text, r"\A[ -~\n]*\Z", name)
            self.assertIsNone(WORDS.search(text), name)

    def test_no_float_and_no_bytes(self):
        for name, node in nodes(ast.Constant):
            self.assertNotIsInstance(node.value, (float, complex, bytes), name)
        for name, node in nodes(ast.Div):
            self.fail(f"{name} divides by /")


class Interface(unittest.TestCase):
    def test_arguments_of_sums(self):
        for function, names in ((sums.given_by, ["pipes", "plan", "station"]),
                                (sums.side_width, ["pipes", "side"]),
                                (sums.flow_over, ["pipes", "plan", "side"])):
            self.assertEqual(list(inspect.signature(function).parameters), names)

    def test_arguments_by_name(self):
        self.assertEqual(sums.given_by(pipes=[(0, 1, 5)], plan=[3], station=0), 3)
        self.assertEqual(sums.side_width(pipes=[(0, 1, 5)], side=[0]), 5)
        self.assertEqual(sums.flow_over(pipes=[(0, 1, 5)], plan=[3], side=[0]), 3)


if __name__ == "__main__":
    unittest.main()
