import unittest

from longreckon.desk import div, gcd, mul, power, read, root, text, turn
from rows import BASES, LARGEST_MOST, SAMPLES, TOP, WRONG_BASES, check_leaves_alone, mixed, number, row, spelled

SMALL = "0123456789abcdefghijklmnopqrstuvwxyz"
# The neighbours of the digits and letters, a blank, a line feed, signs that Python's own int takes, and the ends.
OTHER_BYTES = [47, 58, 64, 91, 96, 123, 32, 10, 9, 13, 43, 45, 95, 46, 0, 127, 128, 255]


def signs(told):
    return list(told.encode("ascii"))


class Numbers(unittest.TestCase):
    def test_one_digit(self):
        for base in range(2, 37):
            for digit in range(base):
                self.assertEqual(read(base, 1, signs(SMALL[digit])), [0, digit], (base, digit))
                self.assertEqual(read(base, 1, signs(SMALL[digit].upper())), [0, digit], (base, digit))

    def test_several_digits(self):
        self.assertEqual(read(2, 1, signs("1010")), [0, 10])
        self.assertEqual(read(3, 1, signs("1201")), [0, 46])
        self.assertEqual(read(8, 1, signs("1234567")), [0, 342391])
        self.assertEqual(read(10, 1, signs("1234567890")), [0, 1234567890])
        self.assertEqual(read(16, 1, signs("123456789abcdef")), [0, 81985529216486895])
        self.assertEqual(read(35, 1, signs("ya9")), [0, 34 * 35 * 35 + 10 * 35 + 9])
        self.assertEqual(read(36, 1, signs("za9")), [0, 35 * 36 * 36 + 10 * 36 + 9])

    def test_several_words(self):
        self.assertEqual(read(10, 2, signs("18446744073709551616")), [0, 0, 1])
        self.assertEqual(read(10, 2, signs("340282366920938463463374607431768211455")), [0, TOP, TOP])
        self.assertEqual(read(16, 3, signs("a" + "0" * 15 + "2" + "0" * 15 + "1")), [0, 1, 2, 10])
        self.assertEqual(read(8, 2, signs("1" + "0" * 22)), [0, 0, 4])
        self.assertEqual(read(36, 2, signs("3w5e11264sgsg")), [0, 0, 1])

    def test_every_small_number(self):
        for base in range(2, 37):
            for value in range(1500):
                self.assertEqual(read(base, 1, signs(spelled(value, base))), [0, value], (base, value))

    def test_letters_small_capital_and_mixed(self):
        self.assertEqual(read(16, 1, signs("beef")), [0, 48879])
        self.assertEqual(read(16, 1, signs("BEEF")), [0, 48879])
        self.assertEqual(read(16, 1, signs("bEeF")), [0, 48879])
        self.assertEqual(read(16, 1, signs("0aA")), [0, 170])
        self.assertEqual(read(35, 1, signs("yY")), [0, 34 * 36])
        self.assertEqual(read(36, 1, signs("zZ")), [0, 1295])
        self.assertEqual(read(36, 1, signs("Zz")), [0, 1295])
        self.assertEqual(read(36, 5, signs(SMALL.upper())), [0] + row(int(SMALL, 36), 5))
        self.assertEqual(read(36, 5, signs(SMALL)), [0] + row(int(SMALL, 36), 5))

    def test_0(self):
        for base in BASES:
            self.assertEqual(read(base, 1, [48]), [0, 0])
            self.assertEqual(read(base, 3, [48, 48]), [0, 0, 0, 0])
            self.assertEqual(read(base, 1, [48] * 1000), [0, 0])
            self.assertEqual(read(base, 64, [48] * 1000), [0] * 65)

    def test_0s_before(self):
        self.assertEqual(read(10, 1, signs("007")), [0, 7])
        self.assertEqual(read(16, 2, signs("00ff")), [0, 255, 0])
        for base in BASES:
            self.assertEqual(read(base, 1, signs("0" * 999 + "1")), [0, 1])
            self.assertEqual(read(base, 1, signs("0" * 998 + "10")), [0, base])

    def test_largest_of_1000_digits(self):
        for base, words in [(2, 16), (10, 52), (36, 81)]:
            told = signs(SMALL[base - 1] * 1000)
            largest = base ** 1000 - 1
            self.assertEqual(read(base, words, told), [0] + row(largest, words), base)
            self.assertEqual(read(base, words + 5, told), [0] + row(largest, words + 5), base)
            self.assertEqual(read(base, words - 1, told), [-7], base)

    def test_1000_digits_in_every_base(self):
        for base in range(2, 37):
            told = "".join(SMALL[(place * place + 3 * place + 1) % base] for place in range(1000))
            self.assertEqual(read(base, 90, signs(told)), [0] + row(int(told, base), 90), base)
            self.assertEqual(read(base, 90, signs(told.upper())), [0] + row(int(told, base), 90), base)


class Most(unittest.TestCase):
    def test_0s_at_the_end(self):
        self.assertEqual(read(10, 1, signs("5")), [0, 5])
        self.assertEqual(read(10, 2, signs("5")), [0, 5, 0])
        self.assertEqual(read(10, 64, signs("5")), [0, 5] + [0] * 63)

    def test_largest_word_and_one_more(self):
        for base in range(2, 37):
            largest = signs(spelled(TOP, base))
            above = signs(spelled(TOP + 1, base))
            self.assertEqual(read(base, 1, largest), [0, TOP], base)
            self.assertEqual(read(base, 2, largest), [0, TOP, 0], base)
            self.assertEqual(read(base, 1, above), [-7], base)
            self.assertEqual(read(base, 2, above), [0, 0, 1], base)
        self.assertEqual(read(10, 1, signs("18446744073709551615")), [0, TOP])
        self.assertEqual(read(10, 1, signs("18446744073709551616")), [-7])

    def test_two_words_and_one_more(self):
        self.assertEqual(read(16, 2, signs("f" * 32)), [0, TOP, TOP])
        self.assertEqual(read(16, 2, signs("1" + "0" * 32)), [-7])
        self.assertEqual(read(16, 3, signs("1" + "0" * 32)), [0, 0, 0, 1])

    def test_64_words_and_one_more(self):
        for base in (32, 35, 36):
            largest = signs(spelled(2 ** 4096 - 1, base))
            above = signs(spelled(2 ** 4096, base))
            self.assertLessEqual(len(above), 1000)
            self.assertEqual(read(base, 64, largest), [0] + [TOP] * 64, base)
            self.assertEqual(read(base, 63, largest), [-7], base)
            self.assertEqual(read(base, 65, largest), [0] + [TOP] * 64 + [0], base)
            self.assertEqual(read(base, 64, above), [-7], base)
            self.assertEqual(read(base, 65, above), [0] + [0] * 64 + [1], base)

    def test_0s_before_take_no_words(self):
        for base in BASES:
            largest = signs(spelled(TOP, base))
            above = signs(spelled(TOP + 1, base))
            self.assertEqual(read(base, 1, [48] * (1000 - len(largest)) + largest), [0, TOP], base)
            self.assertEqual(read(base, 1, [48] * (1000 - len(above)) + above), [-7], base)
        self.assertEqual(read(10, 1, [48] * 65535 + [55]), [0, 7])

    def test_far_more_than_most(self):
        self.assertEqual(read(36, 1, signs("z" * 1000)), [-7])
        self.assertEqual(read(2, 1, signs("1" * 65)), [-7])

    def test_range_of_most(self):
        self.assertEqual(read(10, 1, signs("12")), [0, 12])
        self.assertEqual(read(10, 65535, signs("12")), [0, 12] + [0] * 65534)
        self.assertEqual(read(10, 65536, signs("12")), [0, 12] + [0] * 65535)
        self.assertEqual(read(10, 0, signs("12")), [-2])
        self.assertEqual(read(10, 0, signs("0")), [-2])
        self.assertEqual(read(10, 65537, signs("12")), [-2])
        self.assertEqual(read(10, 4194304, signs("12")), [-2])
        self.assertEqual(read(10, 4294967295, signs("12")), [-2])


class OtherBytes(unittest.TestCase):
    def check_other(self, base, byte):
        """The byte is refused by itself and at every kind of place."""
        for told in ([byte], [byte, 49, 48], [49, byte, 48], [49, 48, byte], [byte] * 3, [byte] + [48] * 999,
                     [48] * 500 + [byte] + [49] * 499, [48] * 999 + [byte]):
            self.assertEqual(read(base, 64, told), [-3], (base, byte))

    def test_every_byte_in_every_base(self):
        for base in range(2, 37):
            taken = list(SMALL[:base].encode("ascii")) + list(SMALL[:base].upper().encode("ascii"))
            for byte in range(256):
                if byte in taken:
                    self.assertEqual(read(base, 1, [byte])[0], 0, (base, byte))
                else:
                    self.assertEqual(read(base, 1, [byte]), [-3], (base, byte))

    def test_the_base_as_a_digit(self):
        for base in (2, 3, 8, 10, 16, 35):
            self.check_other(base, ord(SMALL[base]))
            self.check_other(base, ord(SMALL[base].upper()))

    def test_letters_in_bases_without_letters(self):
        for base in (2, 3, 8, 10):
            for byte in (65, 90, 97, 122):
                self.check_other(base, byte)

    def test_bytes_that_are_digits_in_no_base(self):
        for base in BASES:
            for byte in OTHER_BYTES:
                self.check_other(base, byte)

    def test_what_python_itself_would_take(self):
        for told in ("+5", "-5", "1_000", " 5", "5 ", "5\n", "\t5", "5.", "5.0"):
            self.assertEqual(read(10, 1, signs(told)), [-3], told)
        for told in ("0b1", "0x1", "0o1"):
            self.assertEqual(read(10, 1, signs(told)), [-3], told)
        self.assertEqual(read(2, 1, signs("0b1")), [-3])
        self.assertEqual(read(8, 1, signs("0o1")), [-3])
        self.assertEqual(read(16, 1, signs("0x1")), [-3])
        # In base 16, b is a digit like others.
        self.assertEqual(read(16, 1, signs("0b1")), [0, 177])

    def test_comes_ahead_of_too_many_words(self):
        self.assertEqual(read(10, 1, signs("x" + "9" * 100)), [-3])
        self.assertEqual(read(10, 1, signs("9" * 50 + "x" + "9" * 50)), [-3])
        self.assertEqual(read(10, 1, signs("9" * 100 + "x")), [-3])
        self.assertEqual(read(10, 1, signs("9" * 999 + " ")), [-3])
        self.assertEqual(read(2, 1, signs("1" * 65 + "2")), [-3])
        self.assertEqual(read(36, 1, signs("z" * 999 + "\n")), [-3])


class Refusals(unittest.TestCase):
    def test_base(self):
        for base in WRONG_BASES:
            self.assertEqual(read(base, 1, [48]), [-2], base)
            self.assertEqual(read(base, 64, signs("101")), [-2], base)

    def test_no_bytes(self):
        for base in BASES:
            self.assertEqual(read(base, 1, []), [-2], base)
            self.assertEqual(read(base, 64, []), [-2], base)
        self.assertEqual(read(10, 0, []), [-2])
        self.assertEqual(read(37, 1, []), [-2])

    def test_longest_text(self):
        self.assertEqual(read(10, 1, [48] * 65536), [0, 0])
        self.assertEqual(read(10, 1, [48] * 65537), [-2])

    def test_comes_ahead_of_other_bytes(self):
        for base in WRONG_BASES:
            self.assertEqual(read(base, 1, signs("!")), [-2], base)
            self.assertEqual(read(base, 1, [255]), [-2], base)
        self.assertEqual(read(10, 0, signs("!")), [-2])
        self.assertEqual(read(10, 65537, signs("12x")), [-2])
        self.assertEqual(read(10, 1, [32] * 65537), [-2])

    def test_comes_ahead_of_too_many_words(self):
        for base in WRONG_BASES:
            self.assertEqual(read(base, 1, signs("1" * 1000)), [-2], base)
        self.assertEqual(read(10, 0, signs("9" * 100)), [-2])
        self.assertEqual(read(10, 0, signs("9")), [-2])
        self.assertEqual(read(10, 1, [57] * 65537), [-2])


class BothWays(unittest.TestCase):
    def test_what_text_tells_read_gives_back(self):
        for base in range(2, 37):
            for a in SAMPLES:
                told = text(base, LARGEST_MOST, a)[1:]
                self.assertEqual(read(base, len(a), told), [0] + a, (base, a))

    def test_capital_letters_too(self):
        for base in (16, 35, 36):
            for a in SAMPLES:
                told = text(base, LARGEST_MOST, a)[1:]
                self.assertEqual(read(base, len(a), list(bytes(told).upper())), [0] + a, (base, a))

    def test_what_read_gives_text_tells(self):
        for base in range(2, 37):
            told = signs("1" + "".join(SMALL[(7 * place + 2) % base] for place in range(700)))
            found = read(base, 64, told)
            self.assertEqual(found[0], 0, base)
            again = text(base, 701, found[1:])
            self.assertEqual(again[0], 701, base)
            # Bytes, since long lists that differ a little take minutes to be shown.
            self.assertEqual(bytes(again[1:]), bytes(told), base)
            self.assertEqual(text(base, 700, found[1:]), [-7], base)


class Calls(unittest.TestCase):
    def test_leaves_alone_what_is_handed_in(self):
        check_leaves_alone(self, lambda t: read(10, 3, t), signs("0012345678901234567890"))
        check_leaves_alone(self, lambda t: read(36, 81, t), signs("zZ" * 500))
        check_leaves_alone(self, lambda t: read(10, 3, t), signs("12x"))
        check_leaves_alone(self, lambda t: read(10, 1, t), signs("9" * 30))
        check_leaves_alone(self, lambda t: read(10, 0, t), signs("12"))
        check_leaves_alone(self, lambda t: read(10, 1, t), [])

    def test_one_list_for_both(self):
        handed = [49, 50]
        self.assertEqual(read(10, 2, handed), [0, 12, 0])
        self.assertEqual(text(10, 30, handed), [21] + signs(str(49 + (50 << 64))))
        self.assertEqual(handed, [49, 50])

    def test_other_calls_between_leave_no_trace(self):
        first = read(10, 2, signs("1234"))
        read(36, 9, signs("zzz"))
        read(10, 1, signs("9" * 30))
        read(10, 1, signs("x"))
        read(1, 0, [])
        text(16, 100, mixed(5, 63))
        text(10, 0, [5])
        power([3], [4], [10])
        turn([3], [10])
        root([TOP] * 64)
        gcd([12], [18])
        mul([6], [7])
        div([9], [0])
        self.assertEqual(read(10, 2, signs("1234")), first)
        self.assertEqual(number(first[1:]), 1234)


if __name__ == "__main__":
    unittest.main()
