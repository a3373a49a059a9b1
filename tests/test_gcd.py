import math
import unittest

from longreckon.desk import div, gcd, mul, root
from rows import SAMPLES, TOP, check_leaves_alone, last_neighbours, mixed, number, row


class Divisors(unittest.TestCase):
    def test_one_word(self):
        self.assertEqual(gcd([12], [18]), [0, 6, 0])
        self.assertEqual(gcd([18], [12]), [0, 6, 0])
        self.assertEqual(gcd([1], [1]), [0, 1, 0])
        self.assertEqual(gcd([1 << 63], [1 << 40]), [0, 1 << 40, 0])
        self.assertEqual(gcd([TOP], [4294967295]), [0, 4294967295, 0])

    def test_every_small_pair(self):
        for one in range(60):
            for other in range(60):
                self.assertEqual(gcd([one], [other]), [0, math.gcd(one, other), 0], (one, other))

    def test_several_words(self):
        self.assertEqual(gcd([0, 12], [0, 18]), [0, 0, 6, 0, 0])
        self.assertEqual(gcd([TOP, TOP], [TOP, 0]), [0, TOP, 0, 0, 0])
        self.assertEqual(gcd([5, 5], [7, 7]), [0, 1, 1, 0, 0])

    def test_a_common_divisor_of_several_words(self):
        shared = number(mixed(20, 31))
        one = number(mixed(40, 32))
        other = number(mixed(44, 33))
        told = gcd(row(shared * one, 64), row(shared * other, 64))
        self.assertEqual(told, [0] + row(shared * math.gcd(one, other), 128))

    def test_different_lengths(self):
        self.assertEqual(gcd([0, 0, 12], [18]), [0, 6, 0, 0, 0])
        self.assertEqual(gcd([18], [0, 0, 12]), [0, 6, 0, 0, 0])
        self.assertEqual(gcd([TOP] * 64, [TOP]), [0, TOP] + [0] * 64)
        self.assertEqual(gcd([TOP], [TOP] * 64), [0, TOP] + [0] * 64)
        self.assertEqual(gcd([TOP] * 6, [TOP] * 4), [0, TOP, TOP] + [0] * 8)

    def test_one_number_0(self):
        self.assertEqual(gcd([0], [5]), [0, 5, 0])
        self.assertEqual(gcd([5], [0]), [0, 5, 0])
        self.assertEqual(gcd([0, 0], [7, 8, 9]), [0, 7, 8, 9, 0, 0])
        self.assertEqual(gcd([7, 8, 9], [0, 0]), [0, 7, 8, 9, 0, 0])
        self.assertEqual(gcd([0], [TOP] * 64), [0] + [TOP] * 64 + [0])
        self.assertEqual(gcd([TOP] * 64, [0] * 64), [0] + [TOP] * 64 + [0] * 64)

    def test_both_numbers_0(self):
        self.assertEqual(gcd([0], [0]), [0, 0, 0])
        self.assertEqual(gcd([0, 0, 0], [0]), [0, 0, 0, 0, 0])
        self.assertEqual(gcd([0], [0, 0, 0]), [0, 0, 0, 0, 0])
        self.assertEqual(gcd([0] * 64, [0] * 64), [0] * 129)

    def test_equal_numbers(self):
        self.assertEqual(gcd([5], [5]), [0, 5, 0])
        self.assertEqual(gcd([TOP] * 64, [TOP] * 64), [0] + [TOP] * 64 + [0] * 64)
        self.assertEqual(gcd([3, 4], [3, 4, 0]), [0, 3, 4, 0, 0, 0])

    def test_no_common_divisor_but_1(self):
        self.assertEqual(gcd([8], [9]), [0, 1, 0])
        self.assertEqual(gcd([1], [TOP] * 64), [0, 1] + [0] * 64)
        self.assertEqual(gcd([TOP, TOP], [0, 0, 1]), [0, 1, 0, 0, 0, 0])
        self.assertEqual(gcd([TOP] * 64, [TOP - 1] + [TOP] * 63), [0, 1] + [0] * 127)
        # 2^61 - 1 and 2^521 - 1 are primes.
        self.assertEqual(gcd(row(2 ** 61 - 1, 1), row(2 ** 521 - 1, 9)), [0, 1] + [0] * 9)

    def test_one_a_multiple_of_the_other(self):
        self.assertEqual(gcd([5], [35]), [0, 5, 0])
        self.assertEqual(gcd([35], [5]), [0, 5, 0])
        part = mixed(24, 34)
        whole = row(number(part) * number(mixed(40, 35)), 64)
        self.assertEqual(gcd(part, whole), [0] + part + [0] * 64)
        self.assertEqual(gcd(whole, part), [0] + part + [0] * 64)

    def test_64_words_by_64_words(self):
        a = mixed(64, 36)
        b = mixed(64, 37)
        self.assertEqual(gcd(a, b), [0] + row(math.gcd(number(a), number(b)), 128))

    def test_neighbours_of_fibonacci(self):
        # They take the most steps of all numbers of their length: several thousand here.
        smaller, larger = last_neighbours(2 ** 4096)
        self.assertEqual(larger.bit_length(), 4096)
        self.assertEqual(gcd(row(larger, 64), row(smaller, 64)), [0, 1] + [0] * 127)
        self.assertEqual(gcd(row(smaller, 64), row(larger, 64)), [0, 1] + [0] * 127)
        smaller, larger = last_neighbours(2 ** 4032)
        self.assertEqual(gcd(row(larger * TOP, 64), row(smaller * TOP, 64)), [0, TOP] + [0] * 127)

    def test_0s_at_the_end(self):
        self.assertEqual(gcd([12, 0, 0], [18, 0]), [0, 6, 0, 0, 0, 0])
        self.assertEqual(gcd([12], [18, 0, 0]), [0, 6, 0, 0, 0])
        self.assertEqual(gcd([0, 12, 0], [0, 18, 0]), [0, 0, 6, 0, 0, 0, 0])

    def test_every_pair_of_samples(self):
        for a in SAMPLES:
            for b in SAMPLES:
                expected = row(math.gcd(number(a), number(b)), len(a) + len(b))
                self.assertEqual(gcd(a, b), [0] + expected, (a, b))


class Refusals(unittest.TestCase):
    def test_no_words(self):
        self.assertEqual(gcd([], [1]), [-2])
        self.assertEqual(gcd([1], []), [-2])
        self.assertEqual(gcd([], []), [-2])
        self.assertEqual(gcd([], [0]), [-2])
        self.assertEqual(gcd([0], []), [-2])

    def test_longest_row(self):
        longest = [12] + [0] * 65535
        self.assertEqual(gcd(longest, [18]), [0, 6] + [0] * 65536)
        self.assertEqual(gcd([18], longest), [0, 6] + [0] * 65536)

    def test_one_word_too_many(self):
        too_long = [12] + [0] * 65536
        self.assertEqual(gcd(too_long, [18]), [-2])
        self.assertEqual(gcd([18], too_long), [-2])


class Calls(unittest.TestCase):
    def test_leaves_alone_what_is_handed_in(self):
        check_leaves_alone(self, gcd, [1, 2, 0], [3, 4])
        check_leaves_alone(self, gcd, mixed(64, 38), mixed(33, 39) + [0])
        check_leaves_alone(self, gcd, [0, 0], [0])
        check_leaves_alone(self, gcd, [1, 2], [0, 0])
        check_leaves_alone(self, gcd, [1], [])

    def test_the_same_list_twice(self):
        a = [TOP, 1, 0]
        self.assertEqual(gcd(a, a), [0, TOP, 1, 0, 0, 0, 0])
        self.assertEqual(a, [TOP, 1, 0])

    def test_other_calls_between_leave_no_trace(self):
        first = gcd([12], [18])
        gcd([], [])
        gcd([0], [0])
        gcd([TOP] * 64, [TOP] * 63)
        root([TOP] * 64)
        mul([6], [7])
        div([9], [0])
        self.assertEqual(gcd([12], [18]), first)


if __name__ == "__main__":
    unittest.main()
