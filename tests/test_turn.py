import math
import unittest

from longreckon.desk import div, gcd, mul, power, root, turn
from rows import SAMPLES, TOP, check_leaves_alone, last_neighbours, mixed, number, row


def expected(a, b):
    """What turn answers of two rows that have words, with b above 0."""
    if math.gcd(number(a), number(b)) != 1:
        return [-5]
    return [0] + row(pow(number(a), -1, number(b)), len(b))


class Turned(unittest.TestCase):
    def check_turned(self, a, b):
        """Holds the answer against what the promise says of it, and gives it back."""
        told = turn(a, b)
        self.assertEqual(told[0], 0, (a, b))
        self.assertEqual(len(told), 1 + len(b), (a, b))
        found = number(told[1:])
        self.assertLess(found, number(b), (a, b))
        self.assertEqual(found * number(a) % number(b), 1 % number(b), (a, b))
        return told

    def test_one_word(self):
        self.assertEqual(turn([3], [10]), [0, 7])
        self.assertEqual(turn([3], [7]), [0, 5])
        self.assertEqual(turn([2], [TOP]), [0, 1 << 63])
        self.assertEqual(turn([TOP - 1], [TOP]), [0, TOP - 1])

    def test_every_small_pair(self):
        for one in range(60):
            for other in range(1, 60):
                self.assertEqual(turn([one], [other]), expected([one], [other]), (one, other))

    def test_several_words(self):
        self.assertEqual(turn([2, 0], [1, 1]), [0, (1 << 63) + 1, 0])
        self.assertEqual(turn([0, 1], [TOP, TOP]), [0, 0, 1])
        self.assertEqual(turn([1, 1], [0, 0, 1]), [0, 1, TOP, 0])
        self.check_turned([1, 2, 3], [7, 8, 10])

    def test_a_shorter_than_b(self):
        self.assertEqual(turn([3], [0, 1]), [0, 12297829382473034411, 0])
        self.check_turned([TOP], [0, 0, 0, 1])
        self.check_turned([2], [TOP] * 64)
        self.check_turned([1 << 63], [TOP] * 64)

    def test_a_longer_than_b(self):
        self.assertEqual(turn([0, 1], [7]), [0, 4])
        self.assertEqual(turn([0, 0, 0, 1], [3]), [0, 1])
        self.check_turned([0] * 63 + [1], [TOP])
        self.check_turned(mixed(64, 40), [1 << 63])

    def test_a_below_equal_to_and_above_b(self):
        self.assertEqual(turn([8], [9]), [0, 8])
        self.assertEqual(turn([9], [9]), [-5])
        self.assertEqual(turn([10], [9]), [0, 1])
        self.assertEqual(turn([11], [9]), [0, 5])
        self.assertEqual(turn([4, 7], [5, 7]), [0, 4, 7])
        self.assertEqual(turn([5, 7], [5, 7]), [-5])
        self.assertEqual(turn([6, 7], [5, 7]), [0, 1, 0])
        self.assertEqual(turn([9, 14], [5, 7]), [0, 4, 7])

    def test_a_1(self):
        self.assertEqual(turn([1], [2]), [0, 1])
        self.assertEqual(turn([1], [TOP] * 64), [0, 1] + [0] * 63)
        self.assertEqual(turn([1, 0, 0], [9]), [0, 1])

    def test_b_1(self):
        self.assertEqual(turn([5], [1]), [0, 0])
        self.assertEqual(turn([1], [1]), [0, 0])
        self.assertEqual(turn([0], [1]), [0, 0])
        self.assertEqual(turn([0, 0, 0], [1, 0]), [0, 0, 0])
        self.assertEqual(turn([TOP] * 64, [1]), [0, 0])
        self.assertEqual(turn([TOP] * 64, [1] + [0] * 63), [0] * 65)

    def test_b_2(self):
        self.assertEqual(turn([1], [2]), [0, 1])
        self.assertEqual(turn([TOP] * 64, [2]), [0, 1])
        self.assertEqual(turn([TOP - 1] + [TOP] * 63, [2]), [-5])

    def test_64_words_by_64_words(self):
        # 2^3217 - 1 is a prime.
        prime = row(2 ** 3217 - 1, 64)
        self.assertEqual(self.check_turned(mixed(64, 41), prime), expected(mixed(64, 41), prime))
        even = [0] + mixed(63, 42)
        neighbour = [1] + even[1:]
        self.assertEqual(self.check_turned(neighbour, even), [0, 1] + [0] * 63)
        self.assertEqual(self.check_turned(even, neighbour), [0] + even)

    def test_64_words_all_ones(self):
        full = [TOP] * 64
        below = [TOP - 1] + [TOP] * 63
        self.assertEqual(turn(full, full), [-5])
        self.assertEqual(turn(below, full), [0] + below)
        self.assertEqual(turn(full, below), [0, 1] + [0] * 63)
        self.check_turned([TOP - 2] + [TOP] * 63, full)
        self.check_turned(full, [TOP] * 63 + [TOP >> 1])
        self.check_turned([TOP] * 63 + [TOP >> 1], full)
        self.check_turned(full, [0] * 63 + [1 << 63])

    def test_neighbours_of_fibonacci(self):
        # They take the most steps of all numbers of their length: several thousand here.
        smaller, larger = last_neighbours(2 ** 4096)
        self.assertEqual(larger.bit_length(), 4096)
        self.check_turned(row(smaller, 64), row(larger, 64))
        self.check_turned(row(larger, 64), row(smaller, 64))
        # One step less, so that the last factor has the other sign.
        self.check_turned(row(larger - smaller, 64), row(smaller, 64))

    def test_0s_at_the_end(self):
        self.assertEqual(turn([3, 0, 0], [10]), [0, 7])
        self.assertEqual(turn([3], [10, 0, 0]), [0, 7, 0, 0])
        self.assertEqual(turn([3, 0], [10, 0, 0]), [0, 7, 0, 0])
        self.assertEqual(turn([3] + [0] * 63, [10] + [0] * 63), [0, 7] + [0] * 63)

    def test_every_pair_of_samples(self):
        for a in SAMPLES:
            for b in SAMPLES:
                if number(b) != 0:
                    self.assertEqual(turn(a, b), expected(a, b), (a, b))


class NoneThere(unittest.TestCase):
    def test_a_common_divisor(self):
        self.assertEqual(turn([2], [4]), [-5])
        self.assertEqual(turn([4], [2]), [-5])
        self.assertEqual(turn([12], [18]), [-5])
        self.assertEqual(turn([TOP], [4294967295]), [-5])
        self.assertEqual(turn([0, 1], [0, 0, 1]), [-5])
        self.assertEqual(turn([TOP, TOP], [TOP, 0]), [-5])

    def test_a_common_divisor_of_several_words(self):
        shared = number(mixed(20, 43))
        one = row(shared * number(mixed(40, 44)), 64)
        other = row(shared * number(mixed(44, 45)), 64)
        self.assertEqual(turn(one, other), [-5])
        self.assertEqual(turn(other, one), [-5])

    def test_fibonaccis_neighbours_times_one_number(self):
        smaller, larger = last_neighbours(2 ** 4032)
        self.assertEqual(turn(row(smaller * 3, 64), row(larger * 3, 64)), [-5])

    def test_a_0(self):
        self.assertEqual(turn([0], [2]), [-5])
        self.assertEqual(turn([0, 0, 0], [7]), [-5])
        self.assertEqual(turn([0], [TOP] * 64), [-5])
        self.assertEqual(turn([0] * 64, [0, 1]), [-5])


class Refusals(unittest.TestCase):
    def test_b_0(self):
        self.assertEqual(turn([5], [0]), [-2])
        self.assertEqual(turn([1], [0, 0, 0]), [-2])
        self.assertEqual(turn([0], [0]), [-2])
        self.assertEqual(turn([0, 0], [0, 0]), [-2])
        self.assertEqual(turn([TOP] * 64, [0] * 64), [-2])

    def test_no_words(self):
        self.assertEqual(turn([], [7]), [-2])
        self.assertEqual(turn([3], []), [-2])
        self.assertEqual(turn([], []), [-2])
        self.assertEqual(turn([], [0]), [-2])
        self.assertEqual(turn([], [1]), [-2])
        self.assertEqual(turn([0], []), [-2])

    def test_longest_row(self):
        self.assertEqual(turn([3] + [0] * 65535, [10]), [0, 7])
        self.assertEqual(turn([3], [10] + [0] * 65535), [0, 7] + [0] * 65535)

    def test_one_word_too_many(self):
        self.assertEqual(turn([3] + [0] * 65536, [10]), [-2])
        self.assertEqual(turn([3], [10] + [0] * 65536), [-2])
        # -2 comes first: these two have a common divisor.
        self.assertEqual(turn([2] + [0] * 65536, [10]), [-2])


class Calls(unittest.TestCase):
    def test_leaves_alone_what_is_handed_in(self):
        check_leaves_alone(self, turn, [1, 2, 0], [3, 4])
        check_leaves_alone(self, turn, mixed(64, 46), mixed(33, 47) + [0])
        check_leaves_alone(self, turn, [2], [4])
        check_leaves_alone(self, turn, [1, 2], [0, 0])
        check_leaves_alone(self, turn, [1], [])

    def test_the_same_list_twice(self):
        a = [TOP, 1, 0]
        self.assertEqual(turn(a, a), [-5])
        self.assertEqual(a, [TOP, 1, 0])
        one = [1, 0]
        self.assertEqual(turn(one, one), [0, 0, 0])
        self.assertEqual(one, [1, 0])

    def test_other_calls_between_leave_no_trace(self):
        first = turn([3], [10])
        turn([], [])
        turn([2], [4])
        turn([3], [0])
        turn([TOP] * 64, [TOP] * 63)
        power([3], [4], [10])
        root([TOP] * 64)
        gcd([12], [18])
        mul([6], [7])
        div([9], [0])
        self.assertEqual(turn([3], [10]), first)


if __name__ == "__main__":
    unittest.main()
