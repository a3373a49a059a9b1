"""All eight calls together: what the document says of the whole program."""

import builtins
import contextlib
import inspect
import io
import sys
import unittest
from unittest import mock

from longreckon import desk
from rows import TOP, Watched, check_leaves_alone, last_neighbours, mixed, row

FULL = [TOP] * 64

# Each call with arguments by their names, and the whole answer.
ORDINARY = [
    (desk.mul, {"a": [6], "b": [7]}, [0, 42, 0]),
    (desk.mul, {"a": [TOP, 0], "b": [TOP]}, [0, 1, TOP - 1, 0]),
    (desk.mul, {"a": FULL, "b": FULL}, [0] + [1] + [0] * 63 + [TOP - 1] + [TOP] * 63),
    (desk.div, {"a": [42], "b": [5]}, [0, 8, 2]),
    (desk.div, {"a": [1, 2, 3], "b": [0, 1]}, [0, 2, 3, 0, 1, 0]),
    (desk.div, {"a": [5], "b": [0, 0, 1]}, [0, 0, 5, 0, 0]),
    (desk.root, {"a": [42]}, [0, 6, 6]),
    (desk.root, {"a": [0, 1, 0]}, [0, 4294967296, 0, 0, 0, 0, 0]),
    (desk.root, {"a": [0, 0]}, [0, 0, 0, 0, 0]),
    (desk.gcd, {"a": [12], "b": [18, 0]}, [0, 6, 0, 0]),
    (desk.gcd, {"a": [0], "b": [0]}, [0, 0, 0]),
    (desk.gcd, {"a": [0], "b": [5, 6]}, [0, 5, 6, 0]),
    (desk.turn, {"a": [3], "b": [10, 0]}, [0, 7, 0]),
    (desk.turn, {"a": [0], "b": [1]}, [0, 0]),
    (desk.power, {"a": [3], "e": [4], "b": [50, 0]}, [0, 31, 0]),
    (desk.power, {"a": [0], "e": [0], "b": [7]}, [0, 1]),
    (desk.power, {"a": [0], "e": [0], "b": [1]}, [0, 0]),
    (desk.text, {"base": 16, "most": 4, "a": [48879, 0]}, [4, 98, 101, 101, 102]),
    (desk.text, {"base": 10, "most": 1, "a": [0, 0]}, [1, 48]),
    (desk.text, {"base": 2, "most": 4096, "a": FULL}, [4096] + [49] * 4096),
    (desk.read, {"base": 16, "most": 2, "t": [48, 98, 69, 101, 70]}, [0, 48879, 0]),
    (desk.read, {"base": 10, "most": 1, "t": [48] * 1000}, [0, 0]),
    (desk.read, {"base": 2, "most": 17, "t": [49] * 1000}, [0] + [TOP] * 15 + [2 ** 40 - 1, 0]),
]

# Each refusal of each call; where several would do, the one that comes first.
REFUSED = [
    (desk.div, {"a": [1], "b": [0, 0]}, [-2]),
    (desk.turn, {"a": [1], "b": [0]}, [-2]),
    (desk.turn, {"a": [0], "b": [0]}, [-2]),
    (desk.turn, {"a": [4], "b": [6, 0]}, [-5]),
    (desk.power, {"a": [1], "e": [1], "b": [0]}, [-2]),
    (desk.text, {"base": 1, "most": 0, "a": [0]}, [-2]),
    (desk.text, {"base": 37, "most": 9, "a": [5]}, [-2]),
    (desk.text, {"base": 10, "most": 4194305, "a": [5]}, [-2]),
    (desk.text, {"base": 10, "most": 0, "a": [0]}, [-7]),
    (desk.text, {"base": 10, "most": 1, "a": [10]}, [-7]),
    (desk.read, {"base": 1, "most": 1, "t": [33]}, [-2]),
    (desk.read, {"base": 37, "most": 1, "t": [48]}, [-2]),
    (desk.read, {"base": 10, "most": 0, "t": [33]}, [-2]),
    (desk.read, {"base": 10, "most": 65537, "t": [48]}, [-2]),
    (desk.read, {"base": 10, "most": 1, "t": [57] * 99 + [97]}, [-3]),
    (desk.read, {"base": 10, "most": 1, "t": [57] * 99}, [-7]),
]

CALLS = ORDINARY + REFUSED

SIGNATURES = {
    "mul": "(a, b)", "div": "(a, b)", "root": "(a)", "gcd": "(a, b)", "turn": "(a, b)", "power": "(a, e, b)",
    "text": "(base, most, a)", "read": "(base, most, t)",
}


def handed(named):
    """The arguments with lists of their own."""
    return {name: list(given) if isinstance(given, list) else given for name, given in named.items()}


class Interface(unittest.TestCase):
    def test_names_and_arguments(self):
        for name, signature in SIGNATURES.items():
            self.assertEqual(str(inspect.signature(getattr(desk, name))), signature, name)

    def test_every_call_is_tried(self):
        tried = {call.__name__ for call, named, told in ORDINARY}
        self.assertEqual(tried, set(SIGNATURES))

    def test_by_name(self):
        for call, named, told in CALLS:
            self.assertEqual(call(**handed(named)), told, (call.__name__, named))

    def test_by_place(self):
        for call, named, told in CALLS:
            self.assertEqual(call(*handed(named).values()), told, (call.__name__, named))

    def test_answers_are_lists_of_whole_numbers(self):
        for call, named, told in CALLS:
            answered = call(**handed(named))
            self.assertIs(type(answered), list, call.__name__)
            for each in answered:
                self.assertIs(type(each), int, (call.__name__, named))
                self.assertLessEqual(each, TOP)

    def test_a_refusal_is_its_number_alone(self):
        for call, named, told in CALLS:
            answered = call(**handed(named))
            if answered[0] < 0:
                self.assertEqual(len(answered), 1)
                self.assertIn(answered[0], (-2, -3, -5, -7))
            for each in answered[1:]:
                self.assertGreaterEqual(each, 0)


class Lengths(unittest.TestCase):
    def test_a_list_without_numbers_at_each_place(self):
        for call, named, told in CALLS:
            for name in named:
                if isinstance(named[name], list):
                    given = handed(named)
                    given[name] = []
                    self.assertEqual(call(**given), [-2], (call.__name__, given))

    def test_all_lists_without_numbers(self):
        for call, named, told in CALLS:
            given = {name: [] if isinstance(value, list) else value for name, value in named.items()}
            self.assertEqual(call(**given), [-2], call.__name__)

    def test_a_list_too_long_at_each_place(self):
        for call, named, told in CALLS:
            for name in named:
                if isinstance(named[name], list):
                    given = handed(named)
                    # 0s that leave the number small, so that a wrong answer comes soon too.
                    filling = 48 if name == "t" else 0
                    given[name] = given[name] + [filling] * (65537 - len(given[name]))
                    self.assertEqual(call(**given), [-2], (call.__name__, name))

    def test_0s_at_a_rows_end_change_nothing_of_the_number(self):
        for call, named, told in CALLS:
            if call in (desk.text, desk.turn, desk.power):
                given = handed(named)
                given["a"] = given["a"] + [0, 0]
                self.assertEqual(call(**given), told, (call.__name__, named))


class Calls(unittest.TestCase):
    def test_leaves_alone_what_is_handed_in(self):
        for call, named, told in CALLS:
            names = [name for name in named if isinstance(named[name], list)]
            others = {name: named[name] for name in named if name not in names}
            lists = [list(named[name]) for name in names]
            check_leaves_alone(self, lambda *rows: call(**others, **dict(zip(names, rows))), *lists)

    def test_answers_are_not_what_was_handed_in(self):
        for call, named, told in CALLS:
            given = handed(named)
            answered = call(**given)
            for each in given.values():
                self.assertIsNot(answered, each)

    def test_nothing_is_kept(self):
        before = {name: repr(kept) for name, kept in vars(desk).items() if not name.startswith("__")}
        for call, named, told in CALLS + CALLS[::-1] + CALLS[::2] + CALLS[1::2]:
            self.assertEqual(call(**handed(named)), told, (call.__name__, named))
        after = {name: repr(kept) for name, kept in vars(desk).items() if not name.startswith("__")}
        self.assertEqual(after, before)
        for call, named, told in CALLS:
            self.assertEqual(vars(call), {}, call.__name__)

    def test_prints_reads_and_imports_nothing(self):
        out = io.StringIO()
        answered = []
        refuse = mock.Mock(side_effect=AssertionError("reads or imports"))
        with contextlib.redirect_stdout(out), contextlib.redirect_stderr(out), mock.patch("sys.stdin", None):
            with mock.patch.object(builtins, "open", refuse), mock.patch.object(builtins, "input", refuse):
                given = [(call, handed(named)) for call, named, told in CALLS]
                with mock.patch.object(builtins, "__import__", refuse):
                    for call, named in given:
                        answered.append(call(**named))
        self.assertEqual(answered, [told for call, named, told in CALLS])
        self.assertEqual(out.getvalue(), "")
        refuse.assert_not_called()

    def test_goes_by_loops_where_the_input_is_long(self):
        smaller, larger = last_neighbours(2 ** 4096)
        one = Watched(row(smaller, 64))
        other = Watched(row(larger, 64))
        long_text = [122] * 1000
        lists = mixed(64, 64), mixed(64, 65)
        limit = sys.getrecursionlimit()
        # Room for some calls within one another, far fewer than words, digits or steps.
        sys.setrecursionlimit(len(inspect.stack(0)) + 30)
        try:
            answered = [
                desk.mul(one, other), desk.div(*lists), desk.root(FULL), desk.gcd(one, other), desk.turn(one, other),
                desk.power(one, FULL, other), desk.text(2, 4096, FULL), desk.read(36, 81, long_text),
            ]
        finally:
            sys.setrecursionlimit(limit)
        self.assertEqual([told[0] for told in answered], [0, 0, 0, 0, 0, 0, 4096, 0])
        self.assertEqual([len(told) for told in answered], [129, 129, 129, 129, 65, 65, 4097, 82])


if __name__ == "__main__":
    unittest.main()
