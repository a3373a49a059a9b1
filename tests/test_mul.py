import unittest

from longreckon.desk import div, mul
from rows import SAMPLES, TOP, check_leaves_alone, mixed, number, row


class Products(unittest.TestCase):
    def test_one_word_by_one_word(self):
        self.assertEqual(mul([6], [7]), [0, 42, 0])
        self.assertEqual(mul([1], [1]), [0, 1, 0])
        self.assertEqual(mul([1 << 32], [1 << 32]), [0, 0, 1])
        self.assertEqual(mul([TOP], [2]), [0, TOP - 1, 1])
        self.assertEqual(mul([TOP], [TOP]), [0, 1, TOP - 1])

    def test_several_words(self):
        self.assertEqual(mul([1, 2], [3, 4]), [0, 3, 10, 8, 0])
        self.assertEqual(mul([TOP, TOP], [TOP, TOP]), [0, 1, 0, TOP - 1, TOP])
        self.assertEqual(mul([0, 1], [0, 0, 1]), [0, 0, 0, 0, 1, 0])

    def test_different_lengths(self):
        self.assertEqual(mul([1, 2, 3], [5]), [0, 5, 10, 15, 0])
        self.assertEqual(mul([5], [1, 2, 3]), [0, 5, 10, 15, 0])
        self.assertEqual(mul([TOP, TOP, TOP], [TOP]), [0, 1, TOP, TOP, TOP - 1])

    def test_64_words_by_64_words(self):
        a = mixed(64, 1)
        b = mixed(64, 2)
        self.assertEqual(mul(a, b), [0] + row(number(a) * number(b), 128))

    def test_64_words_by_64_words_of_ones(self):
        self.assertEqual(mul([TOP] * 64, [TOP] * 64), [0, 1] + [0] * 63 + [TOP - 1] + [TOP] * 63)

    def test_0(self):
        self.assertEqual(mul([0], [0]), [0, 0, 0])
        self.assertEqual(mul([0, 0, 0], [TOP, TOP]), [0, 0, 0, 0, 0, 0])
        self.assertEqual(mul([TOP, TOP], [0]), [0, 0, 0, 0])
        self.assertEqual(mul([0] * 64, [TOP] * 64), [0] * 129)

    def test_0s_at_the_end(self):
        self.assertEqual(mul([6, 0, 0], [7, 0]), [0, 42, 0, 0, 0, 0])
        self.assertEqual(mul([TOP, 0], [TOP]), [0, 1, TOP - 1, 0])

    def test_every_pair_of_samples(self):
        for a in SAMPLES:
            for b in SAMPLES:
                expected = row(number(a) * number(b), len(a) + len(b))
                self.assertEqual(mul(a, b), [0] + expected, (a, b))


class Refusals(unittest.TestCase):
    def test_no_words(self):
        self.assertEqual(mul([], [1]), [-2])
        self.assertEqual(mul([1], []), [-2])
        self.assertEqual(mul([], []), [-2])
        self.assertEqual(mul([], [0]), [-2])
        self.assertEqual(mul([0], []), [-2])

    def test_longest_row(self):
        longest = [3] + [0] * 65535
        self.assertEqual(mul(longest, [5]), [0, 15] + [0] * 65536)
        self.assertEqual(mul([5], longest), [0, 15] + [0] * 65536)

    def test_one_word_too_many(self):
        too_long = [3] + [0] * 65536
        self.assertEqual(mul(too_long, [5]), [-2])
        self.assertEqual(mul([5], too_long), [-2])


class Calls(unittest.TestCase):
    def test_leaves_alone_what_is_handed_in(self):
        check_leaves_alone(self, mul, [1, 2, 0], [3, 4])
        check_leaves_alone(self, mul, mixed(64, 3), mixed(64, 4))
        check_leaves_alone(self, mul, [0, 0], [0])
        check_leaves_alone(self, mul, [], [1])

    def test_the_same_list_twice(self):
        a = [TOP, 1]
        self.assertEqual(mul(a, a), [0, 1, TOP - 3, 3, 0])
        self.assertEqual(a, [TOP, 1])

    def test_other_calls_between_leave_no_trace(self):
        first = mul([6], [7])
        mul([], [])
        div([9], [0])
        mul([TOP] * 64, [TOP] * 64)
        self.assertEqual(mul([6], [7]), first)


if __name__ == "__main__":
    unittest.main()
