import math
import unittest

from longreckon.desk import div, gcd, mul, root
from rows import SAMPLES, TOP, check_leaves_alone, mixed, number, row


class Roots(unittest.TestCase):
    def check(self, a):
        """The answer has just its words, and the root is the one that the document's own words single out."""
        told = root(a)
        self.assertEqual(len(told), 1 + 2 * len(a), a)
        self.assertEqual(told[0], 0, a)
        side = number(told[1:1 + len(a)])
        left = number(told[1 + len(a):])
        self.assertLessEqual(side * side, number(a), a)
        self.assertGreater((side + 1) * (side + 1), number(a), a)
        self.assertEqual(side * side + left, number(a), a)

    def check_around_square(self, side, length):
        """side is above 0, so that one below its square is a number too."""
        square = side * side
        self.assertEqual(root(row(square, length)), [0] + row(side, length) + [0] * length, side)
        below = [0] + row(side - 1, length) + row(2 * side - 2, length)
        self.assertEqual(root(row(square - 1, length)), below, side)
        above = [0] + row(side, length) + row(1, length)
        self.assertEqual(root(row(square + 1, length)), above, side)

    def test_smallest_numbers(self):
        self.assertEqual(root([0]), [0, 0, 0])
        self.assertEqual(root([1]), [0, 1, 0])
        self.assertEqual(root([2]), [0, 1, 1])
        self.assertEqual(root([3]), [0, 1, 2])
        self.assertEqual(root([4]), [0, 2, 0])
        self.assertEqual(root([5]), [0, 2, 1])
        self.assertEqual(root([8]), [0, 2, 4])
        self.assertEqual(root([9]), [0, 3, 0])

    def test_every_small_number(self):
        for value in range(3000):
            side = math.isqrt(value)
            self.assertEqual(root([value]), [0, side, value - side * side])

    def test_order_of_what_is_told(self):
        # 2^128 + 7: three words of the root, 2^64, then three of what is over.
        self.assertEqual(root([7, 0, 1]), [0, 0, 1, 0, 7, 0, 0])
        # (2^64 + 3)^2 + 2^64 + 5
        self.assertEqual(root([14, 7, 1]), [0, 3, 1, 0, 5, 1, 0])

    def test_around_squares_of_one_word(self):
        for side in (2, 3, 10, 255, 256, 65535, 65536, 94906265, 94906266, 94906267, 4294967294, 4294967295):
            self.check_around_square(side, 1)

    def test_around_squares_of_several_words(self):
        for side in (2 ** 32, 2 ** 32 + 1, 2 ** 63, 2 ** 64 - 1):
            self.check_around_square(side, 2)
        for side in (2 ** 64, 2 ** 64 + 1, 2 ** 96 - 1):
            self.check_around_square(side, 3)
        for length in (2, 4, 10, 32, 64):
            self.check_around_square(number(mixed(length // 2, length)), length)

    def test_around_squares_of_64_words(self):
        for side in (2 ** 2016, 2 ** 2047, 2 ** 2047 + 1, 2 ** 2048 - 2, 2 ** 2048 - 1):
            self.check_around_square(side, 64)

    def test_around_every_power_of_2(self):
        for bits in range(1, 2048):
            self.check_around_square(1 << bits, 64)

    def test_ones_throughout(self):
        self.assertEqual(root([TOP]), [0, 4294967295, 8589934590])
        self.assertEqual(root([TOP, TOP]), [0, TOP, 0, TOP - 1, 1])
        self.assertEqual(root([TOP] * 64), [0] + [TOP] * 32 + [0] * 32 + [TOP - 1] + [TOP] * 31 + [1] + [0] * 31)
        for length in range(1, 65):
            self.check([TOP] * length)

    def test_one_bit(self):
        for bit in range(0, 4096, 7):
            self.check(row(1 << bit, 64))
            self.check(row((1 << bit) - 1, 64))

    def test_0s_alone(self):
        self.assertEqual(root([0, 0, 0]), [0] * 7)
        self.assertEqual(root([0] * 64), [0] * 129)

    def test_0s_at_the_end(self):
        self.assertEqual(root([11, 0]), [0, 3, 0, 2, 0])
        self.assertEqual(root([TOP, 0, 0]), [0, 4294967295, 0, 0, 8589934590, 0, 0])
        self.assertEqual(root([0, 0, 1, 0]), [0, 0, 1, 0, 0, 0, 0, 0, 0])
        self.assertEqual(root([3] + [0] * 63), [0, 1] + [0] * 63 + [2] + [0] * 63)

    def test_every_sample(self):
        for a in SAMPLES:
            self.check(a)

    def test_mixed_rows_of_every_length(self):
        for length in range(1, 65):
            self.check(mixed(length, 100 + length))


class Refusals(unittest.TestCase):
    def test_no_words(self):
        self.assertEqual(root([]), [-2])

    def test_longest_row(self):
        self.assertEqual(root([17] + [0] * 65535), [0, 4] + [0] * 65535 + [1] + [0] * 65535)

    def test_one_word_too_many(self):
        self.assertEqual(root([17] + [0] * 65536), [-2])


class Calls(unittest.TestCase):
    def test_leaves_alone_what_is_handed_in(self):
        check_leaves_alone(self, root, [1, 2, 0])
        check_leaves_alone(self, root, mixed(64, 21))
        check_leaves_alone(self, root, [TOP] * 64)
        check_leaves_alone(self, root, [0, 0])
        check_leaves_alone(self, root, [])

    def test_other_calls_between_leave_no_trace(self):
        first = root([42])
        root([])
        root([TOP] * 64)
        gcd([42], [0])
        mul([6], [7])
        div([9], [0])
        self.assertEqual(root([42]), first)


if __name__ == "__main__":
    unittest.main()
