"""Point 1, read off the source: no clock, no chance, no files; and the plain rules of form."""

import ast
import builtins
import inspect
import pathlib
import re
import unittest

import pipeworks
from pipeworks import greatest, roads, sums

FOLDER = pathlib.Path(pipeworks.__file__).parent

# The built-in names of rule L8; none of them reaches a clock, chance or a file.
ALLOWED = set("""
    len range enumerate zip min max sum abs sorted reversed int str bool list tuple dict set frozenset
    isinstance ord repr any all divmod Exception ValueError TypeError KeyError IndexError LookupError
    ZeroDivisionError ArithmeticError OverflowError RuntimeError NotImplementedError AttributeError StopIteration
""".split())

WORDS = re.compile(
    r"\b(type|typing|typing_extensions|enum|Enum|IntEnum|StrEnum|Flag|IntFlag|Generic|Protocol|ABC|ABCMeta"
    r"|namedtuple|NamedTuple|TypedDict|TYPE_CHECKING|abstractmethod)\b|dataclass|overload|contextmanager")

# What rules L4 to L7 leave of the language, as far as the sort of a node tells it.
NODES = (ast.Module, ast.ImportFrom, ast.alias, ast.FunctionDef, ast.arguments, ast.arg, ast.Lambda, ast.ClassDef,
         ast.Assign, ast.AugAssign, ast.If, ast.While, ast.For, ast.Return, ast.Break, ast.Continue, ast.Pass,
         ast.Raise, ast.Try, ast.ExceptHandler, ast.Expr, ast.Constant, ast.List, ast.Tuple, ast.Dict, ast.BinOp,
         ast.UnaryOp, ast.BoolOp, ast.Compare, ast.IfExp, ast.Call, ast.keyword, ast.Attribute, ast.Subscript,
         ast.Slice, ast.ListComp, ast.comprehension, ast.JoinedStr, ast.FormattedValue, ast.Name, ast.operator,
         ast.unaryop, ast.boolop, ast.cmpop, ast.expr_context)

# The methods of rule L25; the package has no class with methods of its own.
METHODS = set("""
    append clear copy count endswith extend find get index insert isalnum isalpha isdigit islower isspace isupper
    items join keys ljust lower lstrip partition pop remove replace reverse rfind rjust rpartition rsplit rstrip
    setdefault split splitlines startswith strip update upper values zfill bit_length
""".split())


def sources():
    for path in sorted(FOLDER.glob("**/*.py")):
        yield path.name, path.read_text(encoding="utf-8")


def nodes(kind):
    for name, text in sources():
        for node in ast.walk(ast.parse(text)):
            if isinstance(node, kind):
                yield name, node


class Form(unittest.TestCase):
    def test_the_package_lies_beside_the_tests(self):
        self.assertEqual(FOLDER, pathlib.Path(__file__).resolve().parent.parent / "pipeworks")

    def test_only_plain_python_files(self):
        for path in FOLDER.iterdir():
            if path.name != "__pycache__":
                self.assertRegex(path.name, r"\A[a-z_][a-z0-9_]*\.py\Z")

    def test_only_the_packages_own_modules_are_imported(self):
        for name, node in nodes((ast.Import, ast.ImportFrom)):
            with self.subTest(file=name, line=node.lineno):
                self.assertIsInstance(node, ast.ImportFrom)
                self.assertEqual(node.level, 0)
                self.assertRegex(node.module, r"\Apipeworks\.[a-z_]+\Z")

    def test_each_name_is_imported_from_the_file_that_defines_it(self):
        defined = {}
        for name, text in sources():
            for node in ast.parse(text).body:
                if isinstance(node, (ast.FunctionDef, ast.ClassDef)):
                    defined.setdefault(name, []).append(node.name)
                if isinstance(node, ast.Assign):
                    defined.setdefault(name, []).append(node.targets[0].id)
        for name, names in defined.items():
            self.assertEqual(len(names), len(set(names)), f"{name} binds a name twice")
        for name, node in nodes(ast.ImportFrom):
            for alias in node.names:
                self.assertIn(alias.name, defined[node.module.split(".")[1] + ".py"], name)

    def test_no_two_files_draw_from_one_another(self):
        drawn = {name: set() for name, _ in sources()}
        for name, node in nodes(ast.ImportFrom):
            drawn[name].add(node.module.split(".")[1] + ".py")
        while drawn:
            ready = [name for name in drawn if not drawn[name] & set(drawn)]
            self.assertNotEqual(ready, [], f"among {sorted(drawn)} files draw from one another")
            for name in ready:
                del drawn[name]

    def test_no_other_sort_of_statement_or_expression(self):
        for name, node in nodes(ast.AST):
            self.assertIsInstance(node, NODES, f"{name}: line {getattr(node, 'lineno', None)}")
        for name, node in nodes((ast.FunctionDef, ast.ClassDef)):
            self.assertEqual(node.decorator_list, [], name)
        for name, node in nodes((ast.While, ast.For)):
            self.assertEqual(node.orelse, [], name)
        for name, node in nodes(ast.Assign):
            self.assertEqual(len(node.targets), 1, name)

    def test_no_other_method(self):
        for name, node in nodes(ast.Attribute):
            self.assertIn(node.attr, METHODS, f"{name}: line {node.lineno}")

    def test_no_function_calls_itself(self):
        for name, node in nodes(ast.FunctionDef):
            called = [part.func.id for part in ast.walk(node)
                      if isinstance(part, ast.Call) and isinstance(part.func, ast.Name)]
            self.assertNotIn(node.name, called, name)

    def test_no_other_built_in_name(self):
        for name, node in nodes(ast.Name):
            with self.subTest(file=name, line=node.lineno):
                self.assertFalse(node.id.startswith("_"))
                if hasattr(builtins, node.id):
                    self.assertIn(node.id, ALLOWED)
                    self.assertIsInstance(node.ctx, ast.Load)

    def test_size(self):
        for name, text in sources():
            self.assertLessEqual(len(text.split("\n")), 400, name)
            for line in text.split("\n"):
                self.assertLessEqual(len(line), 120, name)
        for name, node in nodes(ast.FunctionDef):
            self.assertLessEqual(node.end_lineno - node.lineno + 1, 40, f"{name}: {node.name}")

    def test_signs_and_words(self):
        for name, text in sources():
            self.assertRegex(text, r"\A[ -~\n]*\Z", name)
            self.assertIsNone(WORDS.search(text), name)

    def test_no_float_and_no_bytes(self):
        for name, node in nodes(ast.Constant):
            self.assertNotIsInstance(node.value, (float, complex, bytes), name)
        for name, node in nodes(ast.Div):
            self.fail(f"{name} divides by /")


class Interface(unittest.TestCase):
    def test_arguments(self):
        for function, names in ((sums.given_by, ["pipes", "plan", "station"]),
                                (sums.side_width, ["pipes", "side"]),
                                (sums.flow_over, ["pipes", "plan", "side"]),
                                (roads.reached_from, ["count", "pipes", "plan", "station"]),
                                (roads.road_to, ["count", "pipes", "plan", "start", "goal"]),
                                (roads.sent_along, ["plan", "steps", "amount"]),
                                (greatest.best_flow, ["count", "pipes", "spring", "drain"])):
            self.assertEqual(list(inspect.signature(function).parameters), names)

    def test_arguments_by_name(self):
        pipes = [(0, 1, 5)]
        self.assertEqual(sums.given_by(pipes=pipes, plan=[3], station=0), 3)
        self.assertEqual(sums.side_width(pipes=pipes, side=[0]), 5)
        self.assertEqual(sums.flow_over(pipes=pipes, plan=[3], side=[0]), 3)
        self.assertEqual(roads.reached_from(count=2, pipes=pipes, plan=[5], station=1), [0, 1])
        self.assertEqual(roads.road_to(count=2, pipes=pipes, plan=[5], start=1, goal=0), [(0, "against")])
        self.assertEqual(roads.sent_along(plan=[5], steps=[(0, "against")], amount=2), [3])
        self.assertEqual(greatest.best_flow(count=2, pipes=pipes, spring=0, drain=1), ([5], [0]))


if __name__ == "__main__":
    unittest.main()
