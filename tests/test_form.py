"""The form of the package's files: what they may hold, and that they print, read and import nothing."""

import ast
import builtins
import contextlib
import inspect
import io
import pathlib
import re
import unittest

import longreckon
import longreckon.desk

FOLDER = pathlib.Path(longreckon.__file__).parent
FILES = sorted(FOLDER.glob("*.py"))

OWN_NAMES = set("""
    len range enumerate zip min max sum abs sorted reversed int str bool list tuple dict set frozenset isinstance
    ord repr any all divmod ValueError KeyError IndexError LookupError ZeroDivisionError Exception
""".split())

LEFT_OUT = (
    ast.Import, ast.ImportFrom, ast.With, ast.Match, ast.Delete, ast.Global, ast.Nonlocal, ast.Assert, ast.Yield,
    ast.YieldFrom, ast.AsyncFunctionDef, ast.Await, ast.Div, ast.SetComp, ast.DictComp, ast.GeneratorExp,
    ast.NamedExpr, ast.Starred,
)

WORDS_LEFT_OUT = set("""
    type typing typing_extensions enum Enum IntEnum StrEnum Flag IntFlag Generic Protocol ABC ABCMeta namedtuple
    NamedTuple TypedDict TYPE_CHECKING abstractmethod
""".split())


def nodes(file):
    return ast.walk(ast.parse(file.read_text(encoding="ascii")))


class Form(unittest.TestCase):
    def test_nothing_else_lies_in_the_package(self):
        found = sorted(each.name for each in FOLDER.iterdir() if each.name != "__pycache__")
        self.assertEqual(found, [file.name for file in FILES])
        self.assertIn("__init__.py", found)
        self.assertIn("desk.py", found)

    def test_signs_and_sizes(self):
        for file in FILES:
            signs = file.read_bytes()
            self.assertTrue(all(sign == 10 or 32 <= sign <= 126 for sign in signs), file)
            lines = signs.split(b"\n")
            self.assertLessEqual(len(lines), 401, file)
            self.assertLessEqual(max(len(line) for line in lines), 120, file)

    def test_words_that_stand_nowhere(self):
        for file in FILES:
            words = set(re.findall(r"\w+", file.read_text(encoding="ascii")))
            self.assertEqual(words & WORDS_LEFT_OUT, set(), file)

    def test_functions_are_short(self):
        for file in FILES:
            for node in nodes(file):
                if isinstance(node, ast.FunctionDef):
                    self.assertLessEqual(node.end_lineno - node.lineno + 1, 40, node.name)
                    self.assertEqual(node.decorator_list, [], node.name)

    def test_imports_nothing_and_keeps_to_the_statements(self):
        for file in FILES:
            for node in nodes(file):
                self.assertNotIsInstance(node, LEFT_OUT, file)

    def test_uses_only_the_names_of_python_that_are_listed(self):
        for file in FILES:
            for node in nodes(file):
                if isinstance(node, ast.Name) and hasattr(builtins, node.id):
                    self.assertIn(node.id, OWN_NAMES, file)

    def test_whole_numbers_and_texts_alone(self):
        for file in FILES:
            for node in nodes(file):
                if isinstance(node, ast.Constant):
                    self.assertNotIsInstance(node.value, (float, complex, bytes), file)


class Interface(unittest.TestCase):
    def test_names_and_arguments(self):
        self.assertEqual(str(inspect.signature(longreckon.desk.mul)), "(a, b)")
        self.assertEqual(str(inspect.signature(longreckon.desk.div)), "(a, b)")
        self.assertEqual(str(inspect.signature(longreckon.desk.root)), "(a)")
        self.assertEqual(str(inspect.signature(longreckon.desk.gcd)), "(a, b)")
        self.assertEqual(str(inspect.signature(longreckon.desk.turn)), "(a, b)")
        self.assertEqual(str(inspect.signature(longreckon.desk.power)), "(a, e, b)")
        self.assertEqual(longreckon.desk.mul(a=[6], b=[7]), [0, 42, 0])
        self.assertEqual(longreckon.desk.div(a=[42], b=[5]), [0, 8, 2])
        self.assertEqual(longreckon.desk.root(a=[42]), [0, 6, 6])
        self.assertEqual(longreckon.desk.gcd(a=[12], b=[18]), [0, 6, 0])
        self.assertEqual(longreckon.desk.turn(a=[3], b=[10]), [0, 7])
        self.assertEqual(longreckon.desk.power(a=[3], e=[4], b=[10]), [0, 1])

    def test_prints_nothing(self):
        out = io.StringIO()
        with contextlib.redirect_stdout(out), contextlib.redirect_stderr(out):
            longreckon.desk.mul([6], [7])
            longreckon.desk.mul([], [7])
            longreckon.desk.div([42], [5])
            longreckon.desk.div([42], [0])
            longreckon.desk.root([42])
            longreckon.desk.root([])
            longreckon.desk.gcd([12], [18])
            longreckon.desk.gcd([], [18])
            longreckon.desk.turn([3], [10])
            longreckon.desk.turn([4], [10])
            longreckon.desk.turn([3], [0])
            longreckon.desk.power([3], [4], [10])
            longreckon.desk.power([3], [4], [0])
        self.assertEqual(out.getvalue(), "")


if __name__ == "__main__":
    unittest.main()
