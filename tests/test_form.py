"""The form of the package's files: what they may hold."""

import ast
import builtins
import pathlib
import re
import unittest

import longreckon

FOLDER = pathlib.Path(longreckon.__file__).parent
FILES = sorted(FOLDER.glob("*.py"))

OWN_NAMES = set("""
    len range enumerate zip min max sum abs sorted reversed int str bool list tuple dict set frozenset isinstance
    ord repr any all divmod ValueError KeyError IndexError LookupError ZeroDivisionError Exception
""".split())

LEFT_OUT = (
    ast.Import, ast.ImportFrom, ast.With, ast.Match, ast.Delete, ast.Global, ast.Nonlocal, ast.Assert, ast.Yield,
    ast.YieldFrom, ast.AsyncFunctionDef, ast.Await, ast.Div, ast.SetComp, ast.DictComp, ast.GeneratorExp,
    ast.NamedExpr, ast.Starred,
)

WORDS_LEFT_OUT = set("""
    type typing typing_extensions enum Enum IntEnum StrEnum Flag IntFlag Generic Protocol ABC ABCMeta namedtuple
    NamedTuple TypedDict TYPE_CHECKING abstractmethod
""".split())

METHODS = set("""
    append clear copy count endswith extend find get index insert isalnum isalpha isdigit islower isspace isupper
    items join keys ljust lower lstrip partition pop remove replace reverse rfind rjust rpartition rsplit rstrip
    setdefault split splitlines startswith strip update upper values zfill bit_length
""".split())


def nodes(file):
    return ast.walk(ast.parse(file.read_text(encoding="ascii")))


class Form(unittest.TestCase):
    def test_nothing_else_lies_in_the_package(self):
        found = sorted(each.name for each in FOLDER.iterdir() if each.name != "__pycache__")
        self.assertEqual(found, [file.name for file in FILES])
        self.assertIn("__init__.py", found)
        self.assertIn("desk.py", found)

    def test_signs_and_sizes(self):
        for file in FILES:
            signs = file.read_bytes()
            self.assertTrue(all(sign == 10 or 32 <= sign <= 126 for sign in signs), file)
            lines = signs.split(b"\n")
            self.assertLessEqual(len(lines), 401, file)
            self.assertLessEqual(max(len(line) for line in lines), 120, file)

    def test_words_that_stand_nowhere(self):
        for file in FILES:
            words = set(re.findall(r"\w+", file.read_text(encoding="ascii")))
            self.assertEqual(words & WORDS_LEFT_OUT, set(), file)

    def test_functions_are_short(self):
        for file in FILES:
            for node in nodes(file):
                if isinstance(node, ast.FunctionDef):
                    self.assertLessEqual(node.end_lineno - node.lineno + 1, 40, node.name)
                    self.assertEqual(node.decorator_list, [], node.name)

    def test_imports_nothing_and_keeps_to_the_statements(self):
        for file in FILES:
            for node in nodes(file):
                self.assertNotIsInstance(node, LEFT_OUT, file)

    def test_uses_only_the_names_of_python_that_are_listed(self):
        for file in FILES:
            for node in nodes(file):
                if isinstance(node, ast.Name) and hasattr(builtins, node.id):
                    self.assertIn(node.id, OWN_NAMES, file)

    def test_whole_numbers_and_texts_alone(self):
        for file in FILES:
            for node in nodes(file):
                if isinstance(node, ast.Constant):
                    self.assertNotIsInstance(node.value, (float, complex, bytes), file)

    def test_loops_and_assignments_are_plain(self):
        for file in FILES:
            for node in nodes(file):
                if isinstance(node, (ast.For, ast.While)):
                    self.assertEqual(node.orelse, [], (file, node.lineno))
                if isinstance(node, ast.Assign):
                    self.assertEqual(len(node.targets), 1, (file, node.lineno))
                    self.assertIsInstance(node.targets[0], (ast.Name, ast.Subscript, ast.Attribute), node.lineno)

    def test_names_are_plain_and_not_pythons_own(self):
        for file in FILES:
            for node in nodes(file):
                bound = None
                if isinstance(node, (ast.FunctionDef, ast.ClassDef)):
                    bound = node.name
                if isinstance(node, ast.arg):
                    bound = node.arg
                if isinstance(node, ast.Name) and isinstance(node.ctx, ast.Store):
                    bound = node.id
                if bound is not None:
                    self.assertFalse(hasattr(builtins, bound), (file, bound))
                    self.assertFalse(bound.startswith("_"), (file, bound))

    def test_each_name_of_a_files_top_is_bound_once(self):
        for file in FILES:
            bound = []
            for node in ast.parse(file.read_text(encoding="ascii")).body:
                if isinstance(node, ast.Assign):
                    bound.append(node.targets[0].id)
                    self.assertIsInstance(node.value, ast.Constant, (file, node.lineno))
                elif isinstance(node, ast.FunctionDef):
                    bound.append(node.name)
                else:
                    self.assertIsInstance(node, ast.Expr, (file, node.lineno))
                    self.assertIsInstance(node.value, ast.Constant, (file, node.lineno))
            self.assertEqual(len(bound), len(set(bound)), file)

    def test_methods_texts_and_powers(self):
        for file in FILES:
            for node in nodes(file):
                if isinstance(node, ast.Attribute):
                    self.assertIn(node.attr, METHODS, (file, node.lineno))
                if isinstance(node, ast.Constant) and isinstance(node.value, str):
                    self.assertNotIn("%", node.value, (file, node.lineno))
                self.assertNotIsInstance(node, ast.Pow, file)

    def test_is_stands_beside_none_true_and_false_alone(self):
        for file in FILES:
            for node in nodes(file):
                if isinstance(node, ast.Compare) and isinstance(node.ops[0], (ast.Is, ast.IsNot)):
                    self.assertIsInstance(node.comparators[0], ast.Constant, (file, node.lineno))
                    self.assertIn(node.comparators[0].value, (None, True, False), (file, node.lineno))


if __name__ == "__main__":
    unittest.main()
