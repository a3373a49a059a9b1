import unittest

from longreckon.desk import div, gcd, mul, power, root, turn
from rows import SAMPLES, TOP, check_leaves_alone, mixed, number, row


def expected(a, e, b):
    """What power answers of three rows that have words, with b above 0."""
    return [0] + row(pow(number(a), number(e), number(b)), len(b))


class Powers(unittest.TestCase):
    def test_one_word(self):
        self.assertEqual(power([3], [4], [50]), [0, 31])
        self.assertEqual(power([2], [10], [1000]), [0, 24])
        self.assertEqual(power([7], [3], [1000]), [0, 343])
        self.assertEqual(power([TOP - 1], [2], [TOP]), [0, 1])
        self.assertEqual(power([TOP - 1], [3], [TOP]), [0, TOP - 1])

    def test_every_small_triple(self):
        for one in range(14):
            for times in range(14):
                for over in range(1, 30):
                    whole = 1
                    for step in range(times):
                        whole = whole * one
                    self.assertEqual(power([one], [times], [over]), [0, whole % over], (one, times, over))

    def test_several_words(self):
        self.assertEqual(power([0, 1], [2], [TOP, TOP, TOP]), [0, 0, 0, 1])
        self.assertEqual(power([0, 1], [3], [TOP, TOP, TOP]), [0, 1, 0, 0])
        self.assertEqual(power([1, 1], [2], [0, 0, 1]), [0, 1, 2, 0])
        self.assertEqual(power([2], [0, 1], [5, 5]), expected([2], [0, 1], [5, 5]))
        self.assertEqual(power([1, 2], [3, 4], [5, 6]), expected([1, 2], [3, 4], [5, 6]))

    def test_e_0(self):
        self.assertEqual(power([5], [0], [7]), [0, 1])
        self.assertEqual(power([7], [0], [7]), [0, 1])
        self.assertEqual(power([5], [0, 0, 0], [7, 0]), [0, 1, 0])
        self.assertEqual(power([TOP] * 64, [0] * 64, [TOP] * 64), [0, 1] + [0] * 63)
        self.assertEqual(power([5], [0], [1]), [0, 0])

    def test_a_0(self):
        self.assertEqual(power([0], [1], [7]), [0, 0])
        self.assertEqual(power([0], [5], [7]), [0, 0])
        self.assertEqual(power([0, 0], [0, 1], [7, 7]), [0, 0, 0])
        self.assertEqual(power([0] * 64, [TOP] * 64, [TOP] * 64), [0] * 65)
        self.assertEqual(power([0], [5], [1]), [0, 0])

    def test_a_0_and_e_0(self):
        self.assertEqual(power([0], [0], [7]), [0, 1])
        self.assertEqual(power([0], [0], [2]), [0, 1])
        self.assertEqual(power([0, 0], [0, 0, 0], [0, 1]), [0, 1, 0])
        self.assertEqual(power([0] * 64, [0] * 64, [TOP] * 64), [0, 1] + [0] * 63)
        self.assertEqual(power([0], [0], [1]), [0, 0])
        self.assertEqual(power([0, 0], [0, 0, 0], [1, 0]), [0, 0, 0])

    def test_a_1(self):
        self.assertEqual(power([1], [TOP] * 64, [9]), [0, 1])
        self.assertEqual(power([1], [2], [TOP] * 64), [0, 1] + [0] * 63)

    def test_e_1(self):
        self.assertEqual(power([5], [1], [7]), [0, 5])
        self.assertEqual(power([12], [1], [7]), [0, 5])
        self.assertEqual(power([3, 4], [1, 0], [5, 6]), [0, 3, 4])
        self.assertEqual(power([TOP] * 64, [1], [0] * 63 + [2]), [0] + [TOP] * 63 + [1])

    def test_b_1(self):
        self.assertEqual(power([5], [3], [1]), [0, 0])
        self.assertEqual(power([1], [1], [1]), [0, 0])
        self.assertEqual(power([5, 6], [3, 4], [1, 0, 0]), [0, 0, 0, 0])
        self.assertEqual(power([TOP] * 64, [TOP] * 64, [1]), [0, 0])
        self.assertEqual(power([TOP] * 64, [TOP] * 64, [1] + [0] * 63), [0] * 65)

    def test_a_below_equal_to_and_above_b(self):
        self.assertEqual(power([8], [3], [9]), [0, 8])
        self.assertEqual(power([9], [3], [9]), [0, 0])
        self.assertEqual(power([10], [3], [9]), [0, 1])
        self.assertEqual(power([11], [3], [9]), [0, 8])
        self.assertEqual(power([4, 7], [5], [5, 7]), [0, 4, 7])
        self.assertEqual(power([5, 7], [5], [5, 7]), [0, 0, 0])
        self.assertEqual(power([6, 7], [5], [5, 7]), [0, 1, 0])
        self.assertEqual(power([1, 2, 3], [5], [7]), expected([1, 2, 3], [5], [7]))

    def test_b_a_power_of_2(self):
        self.assertEqual(power([3], [5], [2]), [0, 1])
        self.assertEqual(power([6], [5], [2]), [0, 0])
        self.assertEqual(power([3], [5], [64]), [0, 51])
        self.assertEqual(power([2], [62], [1 << 63]), [0, 1 << 62])
        self.assertEqual(power([2], [63], [1 << 63]), [0, 0])
        self.assertEqual(power([2], [64], [0, 0, 1]), [0, 0, 1, 0])
        self.assertEqual(power([2], [128], [0, 0, 1]), [0, 0, 0, 0])
        self.assertEqual(power([TOP], [2], [0, 1]), [0, 1, 0])
        self.assertEqual(power([2], [4095], [0] * 63 + [TOP]), [0] + [0] * 63 + [1 << 63])
        a = mixed(64, 50)
        b = [0] * 63 + [1 << 63]
        self.assertEqual(power(a, [TOP, TOP], b), expected(a, [TOP, TOP], b))

    def test_e_of_many_words(self):
        # Over a prime, a to the power of what is 1 below it leaves 1.
        prime = 2 ** 3217 - 1
        self.assertEqual(power([3], row(prime - 1, 64), row(prime, 51)), [0, 1] + [0] * 50)
        self.assertEqual(power([3], row(prime, 64), row(prime, 51)), [0, 3] + [0] * 50)
        # Over 7, 3 comes round after six steps.
        self.assertEqual(power([3], [0] * 63 + [1], [7]), [0, pow(3, pow(2, 63 * 64, 6), 7)])
        self.assertEqual(power([3], [TOP] * 64, [7]), [0, pow(3, (pow(2, 4096, 6) - 1) % 6, 7)])
        self.assertEqual(power([TOP], [TOP] * 64, [7, 7]), expected([TOP], [TOP] * 64, [7, 7]))
        self.assertEqual(power([2], mixed(64, 51), [TOP, 1]), expected([2], mixed(64, 51), [TOP, 1]))

    def test_different_lengths(self):
        for n, k, m in [(1, 2, 3), (3, 2, 1), (2, 3, 1), (2, 1, 3), (64, 1, 1), (1, 64, 1), (1, 1, 64), (64, 2, 5),
                        (3, 64, 2), (5, 2, 64), (64, 64, 1), (64, 1, 64), (1, 64, 64)]:
            a = mixed(n, 52)
            e = mixed(k, 53)
            b = mixed(m, 54)
            self.assertEqual(power(a, e, b), expected(a, e, b), (n, k, m))

    def test_64_words_each(self):
        full = [TOP] * 64
        below = [TOP - 1] + [TOP] * 63
        self.assertEqual(power(full, full, full), [0] * 65)
        self.assertEqual(power(below, full, full), [0] + below)
        self.assertEqual(power(below, below, full), [0, 1] + [0] * 63)
        a = mixed(64, 55)
        e = mixed(64, 56)
        b = mixed(64, 57)
        self.assertEqual(power(a, e, b), expected(a, e, b))
        self.assertEqual(power(a, full, b), expected(a, full, b))
        self.assertEqual(power(a, e, full), expected(a, e, full))

    def test_0s_at_the_end(self):
        self.assertEqual(power([3, 0], [4], [50]), [0, 31])
        self.assertEqual(power([3], [4, 0, 0], [50]), [0, 31])
        self.assertEqual(power([3], [4], [50, 0, 0]), [0, 31, 0, 0])
        self.assertEqual(power([3] + [0] * 63, [4] + [0] * 63, [50] + [0] * 63), [0, 31] + [0] * 63)

    def test_every_triple_of_short_samples(self):
        short = [each for each in SAMPLES if len(each) <= 7]
        for a in short:
            for e in short:
                for b in short:
                    if number(b) != 0:
                        self.assertEqual(power(a, e, b), expected(a, e, b), (a, e, b))


class Refusals(unittest.TestCase):
    def test_b_0(self):
        self.assertEqual(power([5], [3], [0]), [-2])
        self.assertEqual(power([5], [3], [0, 0, 0]), [-2])
        self.assertEqual(power([0], [0], [0]), [-2])
        self.assertEqual(power([1], [0], [0]), [-2])
        self.assertEqual(power([TOP] * 64, [TOP] * 64, [0] * 64), [-2])

    def test_no_words(self):
        self.assertEqual(power([], [3], [7]), [-2])
        self.assertEqual(power([5], [], [7]), [-2])
        self.assertEqual(power([5], [3], []), [-2])
        self.assertEqual(power([], [], [7]), [-2])
        self.assertEqual(power([5], [], []), [-2])
        self.assertEqual(power([], [3], []), [-2])
        self.assertEqual(power([], [], []), [-2])
        self.assertEqual(power([], [3], [0]), [-2])
        self.assertEqual(power([], [0], [1]), [-2])
        self.assertEqual(power([0], [], [1]), [-2])

    def test_longest_row(self):
        filling = [0] * 65535
        self.assertEqual(power([3] + filling, [4], [50]), [0, 31])
        self.assertEqual(power([3], [4] + filling, [50]), [0, 31])
        self.assertEqual(power([3], [4], [50] + filling), [0, 31] + filling)

    def test_one_word_too_many(self):
        filling = [0] * 65536
        self.assertEqual(power([3] + filling, [4], [50]), [-2])
        self.assertEqual(power([3], [4] + filling, [50]), [-2])
        self.assertEqual(power([3], [4], [50] + filling), [-2])


class Calls(unittest.TestCase):
    def test_leaves_alone_what_is_handed_in(self):
        check_leaves_alone(self, power, [1, 2, 0], [3, 4], [5, 6, 7, 0])
        check_leaves_alone(self, power, mixed(64, 58), mixed(3, 59), mixed(33, 60) + [0])
        check_leaves_alone(self, power, [0], [0, 0], [1])
        check_leaves_alone(self, power, [1, 2], [3], [0, 0])
        check_leaves_alone(self, power, [1], [], [2])

    def test_the_same_list_thrice(self):
        a = [TOP, 1, 0]
        self.assertEqual(power(a, a, a), [0, 0, 0, 0])
        self.assertEqual(a, [TOP, 1, 0])
        self.assertEqual(power(a, a, [7]), expected([TOP, 1], [TOP, 1], [7]))
        self.assertEqual(a, [TOP, 1, 0])

    def test_other_calls_between_leave_no_trace(self):
        first = power([3], [4], [50])
        power([], [], [])
        power([0], [0], [1])
        power([3], [4], [0])
        power([TOP] * 9, [TOP] * 8, [TOP] * 7)
        turn([3], [10])
        root([TOP] * 64)
        gcd([12], [18])
        mul([6], [7])
        div([9], [0])
        self.assertEqual(power([3], [4], [50]), first)


if __name__ == "__main__":
    unittest.main()
