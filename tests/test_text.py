import unittest

from longreckon.desk import div, gcd, mul, power, read, root, text, turn
from rows import BASES, LARGEST_MOST, SAMPLES, TOP, WRONG_BASES, check_leaves_alone, mixed, number, spelled

DIGITS = b"0123456789abcdefghijklmnopqrstuvwxyz"


def answer(told):
    """What text answers where it tells these signs."""
    return [len(told)] + list(told.encode("ascii"))


class Texts(unittest.TestCase):
    def check_text(self, base, a):
        """Holds the answer against what the promise says of it, and gives its bytes back."""
        told = text(base, LARGEST_MOST, a)
        self.assertEqual(told[0], len(told) - 1, (base, a))
        for byte in told[1:]:
            self.assertIn(byte, list(DIGITS[:base]), (base, a))
        if number(a) != 0:
            self.assertNotEqual(told[1], 48, (base, a))
        signs = bytes(told[1:])
        self.assertEqual(int(signs, base), number(a), (base, a))
        return signs

    def test_one_word(self):
        self.assertEqual(text(10, 100, [1234567890]), answer("1234567890"))
        self.assertEqual(text(2, 100, [10]), answer("1010"))
        self.assertEqual(text(3, 100, [46]), answer("1201"))
        self.assertEqual(text(8, 100, [342391]), answer("1234567"))
        self.assertEqual(text(16, 100, [81985529216486895]), answer("123456789abcdef"))
        self.assertEqual(text(35, 100, [34 * 35 * 35 + 10 * 35 + 9]), answer("ya9"))
        self.assertEqual(text(36, 100, [35 * 36 * 36 + 10 * 36 + 9]), answer("za9"))

    def test_largest_word(self):
        self.assertEqual(text(2, 100, [TOP]), answer("1" * 64))
        self.assertEqual(text(3, 100, [TOP]), answer("11112220022122120101211020120210210211220"))
        self.assertEqual(text(8, 100, [TOP]), answer("1777777777777777777777"))
        self.assertEqual(text(10, 100, [TOP]), answer("18446744073709551615"))
        self.assertEqual(text(16, 100, [TOP]), answer("f" * 16))
        self.assertEqual(text(36, 100, [TOP]), answer("3w5e11264sgsf"))

    def test_several_words(self):
        self.assertEqual(text(10, 100, [0, 1]), answer("18446744073709551616"))
        self.assertEqual(text(10, 100, [TOP, TOP]), answer("340282366920938463463374607431768211455"))
        self.assertEqual(text(16, 100, [1, 2, 10]), answer("a" + "0" * 15 + "2" + "0" * 15 + "1"))
        self.assertEqual(text(2, 200, [1, 2, 3]), answer("11" + "0" * 62 + "10" + "0" * 63 + "1"))
        self.assertEqual(text(8, 100, [0, 4]), answer("1" + "0" * 22))

    def test_each_digit(self):
        signs = "0123456789abcdefghijklmnopqrstuvwxyz"
        for base in range(2, 37):
            for digit in range(base):
                self.assertEqual(text(base, 1, [digit]), [1, ord(signs[digit])], (base, digit))
            self.assertEqual(text(base, 2, [base]), [2, 49, 48], base)
        self.assertEqual(text(36, 1, [10]), [1, 97])
        self.assertEqual(text(36, 1, [35]), [1, 122])

    def test_every_small_number(self):
        for base in range(2, 37):
            for value in range(1500):
                self.assertEqual(text(base, 100, [value]), answer(spelled(value, base)), (base, value))

    def test_powers_of_the_base_and_what_is_beside_them(self):
        for base in range(2, 37):
            for length in (1, 2, 5, 12):
                last = DIGITS[base - 1:base].decode("ascii")
                self.assertEqual(text(base, 20, [base ** length]), answer("1" + "0" * length), (base, length))
                self.assertEqual(text(base, 20, [base ** length - 1]), answer(last * length), (base, length))

    def test_0(self):
        for base in BASES:
            self.assertEqual(text(base, 1, [0]), [1, 48])
            self.assertEqual(text(base, 1, [0, 0, 0]), [1, 48])
            self.assertEqual(text(base, LARGEST_MOST, [0] * 64), [1, 48])

    def test_0s_at_the_end(self):
        for base in BASES:
            self.assertEqual(text(base, 100, [7, 0, 0]), text(base, 100, [7]))
            self.assertEqual(text(base, 100, [TOP] + [0] * 63), text(base, 100, [TOP]))
        self.assertEqual(text(10, 100, [5, 0, 0, 0]), [1, 53])

    def test_64_words_all_ones(self):
        full = [TOP] * 64
        self.assertEqual(text(2, LARGEST_MOST, full), [4096] + [49] * 4096)
        self.assertEqual(text(16, LARGEST_MOST, full), [1024] + [102] * 1024)
        self.assertEqual(text(10, LARGEST_MOST, full), answer(str(2 ** 4096 - 1)))
        self.assertEqual(len(self.check_text(10, full)), 1234)
        self.assertEqual(len(self.check_text(36, full)), 793)

    def test_64_words(self):
        a = mixed(64, 61)
        self.assertEqual(text(2, 4096, a), answer(format(number(a), "b")))
        self.assertEqual(text(8, 4096, a), answer(format(number(a), "o")))
        self.assertEqual(text(10, 4096, a), answer(str(number(a))))
        self.assertEqual(text(16, 4096, a), answer(format(number(a), "x")))
        for base in (3, 35, 36):
            self.check_text(base, a)
        self.assertEqual(text(2, 4096, [0] * 63 + [1]), answer("1" + "0" * 4032))
        self.assertEqual(text(36, 4096, [0] * 63 + [1]), answer(spelled(2 ** 4032, 36)))

    def test_every_sample_in_every_base(self):
        for base in range(2, 37):
            for a in SAMPLES:
                self.check_text(base, a)


class Most(unittest.TestCase):
    def test_just_as_many_as_the_bytes(self):
        self.assertEqual(text(10, 4, [1234]), answer("1234"))
        self.assertEqual(text(10, 3, [1234]), [-7])
        self.assertEqual(text(10, 3, [999]), answer("999"))
        self.assertEqual(text(10, 3, [1000]), [-7])
        self.assertEqual(text(10, 20, [0, 1]), answer("18446744073709551616"))
        self.assertEqual(text(10, 19, [0, 1]), [-7])

    def test_every_sample(self):
        for base in BASES:
            for a in SAMPLES:
                told = text(base, LARGEST_MOST, a)
                self.assertEqual(text(base, told[0], a), told, (base, a))
                self.assertEqual(text(base, told[0] + 1, a), told, (base, a))
                self.assertEqual(text(base, told[0] - 1, a), [-7], (base, a))

    def test_64_words_all_ones(self):
        full = [TOP] * 64
        for base, length in [(2, 4096), (10, 1234), (36, 793)]:
            self.assertEqual(text(base, length, full)[0], length)
            self.assertEqual(text(base, length - 1, full), [-7])

    def test_most_0(self):
        self.assertEqual(text(10, 0, [5]), [-7])
        self.assertEqual(text(10, 0, [0]), [-7])
        self.assertEqual(text(2, 0, [0, 0, 0]), [-7])
        self.assertEqual(text(36, 0, [TOP] * 64), [-7])

    def test_most_1(self):
        self.assertEqual(text(10, 1, [0]), [1, 48])
        self.assertEqual(text(10, 1, [9]), [1, 57])
        self.assertEqual(text(10, 1, [9, 0, 0]), [1, 57])
        self.assertEqual(text(10, 1, [10]), [-7])
        self.assertEqual(text(2, 1, [2]), [-7])
        self.assertEqual(text(36, 1, [36]), [-7])

    def test_largest_most(self):
        self.assertEqual(text(10, 4194304, [1234]), answer("1234"))
        self.assertEqual(text(10, 65537, [1234]), answer("1234"))
        self.assertEqual(text(10, 4194303, [0]), [1, 48])
        self.assertEqual(text(10, 4194305, [1234]), [-2])
        self.assertEqual(text(10, 4294967295, [1234]), [-2])


class Refusals(unittest.TestCase):
    def test_base(self):
        for base in WRONG_BASES:
            # 0 first: above it, a base of 1 that is taken would have no end.
            self.assertEqual(text(base, 100, [0]), [-2], base)
            self.assertEqual(text(base, 100, [5]), [-2], base)
            self.assertEqual(text(base, 4194304, [TOP] * 64), [-2], base)

    def test_no_words(self):
        for base in BASES:
            self.assertEqual(text(base, 100, []), [-2], base)
            self.assertEqual(text(base, 4194304, []), [-2], base)

    def test_longest_row(self):
        self.assertEqual(text(10, 4, [1234] + [0] * 65535), answer("1234"))
        self.assertEqual(text(10, 4, [1234] + [0] * 65536), [-2])

    def test_comes_ahead_of_most(self):
        self.assertEqual(text(10, 0, []), [-2])
        self.assertEqual(text(10, 4194305, []), [-2])
        self.assertEqual(text(10, 2, [1234] + [0] * 65536), [-2])
        for base in WRONG_BASES:
            self.assertEqual(text(base, 0, [0]), [-2], base)
            self.assertEqual(text(base, 0, [5]), [-2], base)
            self.assertEqual(text(base, 1, [TOP]), [-2], base)
            self.assertEqual(text(base, 0, []), [-2], base)
            self.assertEqual(text(base, 4194305, [5]), [-2], base)


class Calls(unittest.TestCase):
    def test_leaves_alone_what_is_handed_in(self):
        check_leaves_alone(self, lambda a: text(10, 100, a), [1, 2, 0])
        check_leaves_alone(self, lambda a: text(2, 4096, a), mixed(62, 62) + [0, 0])
        check_leaves_alone(self, lambda a: text(36, 1, a), [0, 0])
        check_leaves_alone(self, lambda a: text(10, 3, a), [1234, 0])
        check_leaves_alone(self, lambda a: text(37, 3, a), [1234, 0])
        check_leaves_alone(self, lambda a: text(10, 3, a), [])

    def test_other_calls_between_leave_no_trace(self):
        first = text(10, 100, [1234])
        text(36, 100, [TOP] * 3)
        text(10, 0, [5])
        text(37, 1, [])
        read(10, 1, [49, 50])
        read(10, 1, [32])
        power([3], [4], [10])
        turn([3], [10])
        root([TOP] * 64)
        gcd([12], [18])
        mul([6], [7])
        div([9], [0])
        self.assertEqual(text(10, 100, [1234]), first)


if __name__ == "__main__":
    unittest.main()
