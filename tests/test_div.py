import unittest

from longreckon.desk import div, mul
from rows import SAMPLES, TOP, check_leaves_alone, mixed, number, row


class Quotients(unittest.TestCase):
    def test_ordinary_rows(self):
        self.assertEqual(div([42], [5]), [0, 8, 2])
        self.assertEqual(div([42], [7]), [0, 6, 0])
        self.assertEqual(div([3, 10, 8], [1, 2]), [0, 3, 4, 0, 0, 0])
        self.assertEqual(div([4, 10, 8], [1, 2]), [0, 3, 4, 0, 1, 0])

    def test_order_of_what_is_told(self):
        # Three words of how often, then two of what is left: 2^128 + 5 over 2^64 + 1 goes 2^64 - 1 times.
        self.assertEqual(div([5, 0, 1], [1, 1]), [0, TOP, 0, 0, 6, 0])

    def test_a_smaller_than_b(self):
        self.assertEqual(div([4], [5]), [0, 0, 4])
        self.assertEqual(div([0], [5]), [0, 0, 0])
        self.assertEqual(div([TOP, 1], [0, 2]), [0, 0, 0, TOP, 1])
        self.assertEqual(div([9, 0, 0], [TOP]), [0, 0, 0, 0, 9])

    def test_a_equal_to_b(self):
        self.assertEqual(div([5], [5]), [0, 1, 0])
        self.assertEqual(div([TOP] * 64, [TOP] * 64), [0, 1] + [0] * 63 + [0] * 64)
        self.assertEqual(div([5, 0], [5, 0, 0]), [0, 1, 0, 0, 0, 0])

    def test_a_next_to_b(self):
        self.assertEqual(div([TOP, TOP], [0, 0, 1]), [0, 0, 0, TOP, TOP, 0])
        self.assertEqual(div([1, 1], [0, 1]), [0, 1, 0, 1, 0])
        self.assertEqual(div([0, 1], [1, 1]), [0, 0, 0, 0, 1])

    def test_b_of_one_word(self):
        self.assertEqual(div([0, 1], [2]), [0, 1 << 63, 0, 0])
        self.assertEqual(div([7, 5, 3], [1]), [0, 7, 5, 3, 0])
        self.assertEqual(div([TOP] * 64, [TOP]), [0] + [1] * 64 + [0])
        self.assertEqual(div([TOP] * 64, [2]), [0] + [TOP] * 63 + [TOP >> 1] + [1])

    def test_b_of_64_words(self):
        a = mixed(64, 5)
        b = mixed(40, 6) + [0] * 24
        times, left = divmod(number(a), number(b))
        self.assertEqual(div(a, b), [0] + row(times, 64) + row(left, 64))
        self.assertEqual(div([TOP] * 64, [0] * 63 + [1]), [0, TOP] + [0] * 63 + [TOP] * 63 + [0])

    def test_b_with_0s_at_its_end(self):
        self.assertEqual(div([42], [5, 0, 0]), [0, 8, 2, 0, 0])
        self.assertEqual(div([1, 2, 3], [1, 0]), [0, 1, 2, 3, 0, 0])

    def test_a_with_fewer_words_than_b(self):
        self.assertEqual(div([9], [4, 5, 6]), [0, 0, 9, 0, 0])
        self.assertEqual(div([TOP], [0] * 63 + [1]), [0, 0, TOP] + [0] * 63)

    def test_a_with_more_words_than_b(self):
        a = mixed(64, 7)
        b = mixed(3, 8)
        times, left = divmod(number(a), number(b))
        self.assertEqual(div(a, b), [0] + row(times, 64) + row(left, 3))

    def test_ones_throughout(self):
        self.assertEqual(div([TOP], [TOP]), [0, 1, 0])
        self.assertEqual(div([TOP] * 4, [TOP] * 2), [0, 1, 0, 1, 0, 0, 0])
        self.assertEqual(div([TOP] * 3, [TOP] * 2), [0, 0, 1, 0, TOP, 0])
        self.assertEqual(div([TOP] * 2, [TOP] * 3), [0, 0, 0, TOP, TOP, 0])

    def test_every_pair_of_samples(self):
        for a in SAMPLES:
            for b in SAMPLES:
                if any(b):
                    times, left = divmod(number(a), number(b))
                    expected = row(times, len(a)) + row(left, len(b))
                    self.assertEqual(div(a, b), [0] + expected, (a, b))


class Refusals(unittest.TestCase):
    def test_no_words(self):
        self.assertEqual(div([], [1]), [-2])
        self.assertEqual(div([1], []), [-2])
        self.assertEqual(div([], []), [-2])
        self.assertEqual(div([], [0]), [-2])

    def test_b_of_0(self):
        self.assertEqual(div([1], [0]), [-2])
        self.assertEqual(div([0], [0]), [-2])
        self.assertEqual(div([1, 2, 3], [0, 0]), [-2])
        self.assertEqual(div([0, 0], [0, 0, 0]), [-2])
        self.assertEqual(div([TOP] * 64, [0] * 64), [-2])

    def test_longest_row(self):
        longest = [17] + [0] * 65535
        self.assertEqual(div(longest, [5]), [0, 3] + [0] * 65535 + [2])
        self.assertEqual(div([5], longest), [0, 0, 5] + [0] * 65535)

    def test_one_word_too_many(self):
        too_long = [17] + [0] * 65536
        self.assertEqual(div(too_long, [5]), [-2])
        self.assertEqual(div([5], too_long), [-2])


class Calls(unittest.TestCase):
    def test_leaves_alone_what_is_handed_in(self):
        check_leaves_alone(self, div, [1, 2, 0], [3, 4])
        check_leaves_alone(self, div, mixed(64, 9), mixed(33, 10) + [0])
        check_leaves_alone(self, div, [1, 2], [0, 0])
        check_leaves_alone(self, div, [1], [])

    def test_the_same_list_twice(self):
        a = [TOP, 1, 0]
        self.assertEqual(div(a, a), [0, 1, 0, 0, 0, 0, 0])
        self.assertEqual(a, [TOP, 1, 0])

    def test_other_calls_between_leave_no_trace(self):
        first = div([42], [5])
        div([], [])
        div([9], [0])
        mul([TOP] * 64, [TOP] * 64)
        self.assertEqual(div([42], [5]), first)


if __name__ == "__main__":
    unittest.main()
