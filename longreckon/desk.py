"""Reckoning with large whole numbers.

A number is handed in and told as a row: a list of 64-bit words, the lowest first. A text is a list of bytes.
An answer is a list that begins with 0 (text: with how many bytes follow), or a refusal's number alone:
-2 where a length, base or most is out of its range, or b is 0 and may not be; it comes ahead of every other.
-3 where a text has bytes that are no digits of its base.
-5 where no number is the one that turn asks for.
-7 where a result takes more than most allows.
"""

WORD_BITS = 64
LARGEST_WORD = 18446744073709551615
MOST_LENGTH = 65536
MOST_TOLD = 4194304
DIGITS = "0123456789abcdefghijklmnopqrstuvwxyz"


def length_fits(handed):
    return 1 <= len(handed) <= MOST_LENGTH


def number_of(row):
    number = 0
    for word in reversed(row):
        number = (number << WORD_BITS) | word
    return number


def row_of(number, length):
    """The number's lowest words, as many as length says, with 0s at the end where it is shorter."""
    row = []
    rest = number
    while len(row) < length:
        row.append(rest & LARGEST_WORD)
        rest = rest >> WORD_BITS
    return row


def mul(a, b):
    """0, then a times b in as many words as both have; or -2."""
    if not length_fits(a) or not length_fits(b):
        return [-2]
    product = number_of(a) * number_of(b)
    return [0] + row_of(product, len(a) + len(b))


def div(a, b):
    """0, then how often b goes into a in a's length, then what is left in b's length; or -2."""
    if not length_fits(a) or not length_fits(b):
        return [-2]
    dividend = number_of(a)
    divisor = number_of(b)
    if divisor == 0:
        return [-2]
    times = dividend // divisor
    left = dividend % divisor
    return [0] + row_of(times, len(a)) + row_of(left, len(b))


def root_of(number):
    """The largest number whose square isn't above the given one."""
    if number == 0:
        return 0
    # Newton's steps come down to the root only from at or above it, and this start is never below it.
    guess = 1 << ((number.bit_length() + 1) // 2)
    closer = (guess + number // guess) // 2
    while closer < guess:
        guess = closer
        closer = (guess + number // guess) // 2
    return guess


def root(a):
    """0, then the largest number whose square isn't above a, then a less its square, each in a's length; or -2."""
    if not length_fits(a):
        return [-2]
    square = number_of(a)
    side = root_of(square)
    return [0] + row_of(side, len(a)) + row_of(square - side * side, len(a))


def common_divisor(one, other):
    """The greatest number that divides both; 0 of two 0s."""
    found = one
    rest = other
    while rest != 0:
        left = found % rest
        found = rest
        rest = left
    return found


def gcd(a, b):
    """0, then the greatest number that divides a and b in as many words as both have; or -2."""
    if not length_fits(a) or not length_fits(b):
        return [-2]
    divisor = common_divisor(number_of(a), number_of(b))
    return [0] + row_of(divisor, len(a) + len(b))


def turned(number, over):
    """The number below over that, times the given one, leaves 1; the two have no common divisor but 1."""
    found = over
    rest = number % over
    # At each step, factor times number leaves found, and closer times number leaves rest, but for multiples of over.
    factor = 0
    closer = 1
    while rest != 0:
        times = found // rest
        left = found - times * rest
        found = rest
        rest = left
        further = factor - times * closer
        factor = closer
        closer = further
    # The factors are below 0 at every second step.
    return factor % over


def turn(a, b):
    """0, then the number below b that, times a, leaves 1 over b (0 of b 1), in b's length; or -2, or -5: none."""
    if not length_fits(a) or not length_fits(b):
        return [-2]
    number = number_of(a)
    over = number_of(b)
    if over == 0:
        return [-2]
    if common_divisor(number, over) != 1:
        return [-5]
    return [0] + row_of(turned(number, over), len(b))


def power_over(number, exponent, over):
    """What is left over the last number of the first to the power of the second."""
    # Over 1 even the power of 0 leaves 0.
    result = 1 % over
    square = number % over
    rest = exponent
    while rest != 0:
        if (rest & 1) == 1:
            result = result * square % over
        square = square * square % over
        rest = rest >> 1
    return result


def power(a, e, b):
    """0, then what is left over b of a to the power of e (0 to the power of 0 is 1), in b's length; or -2."""
    if not length_fits(a) or not length_fits(e) or not length_fits(b):
        return [-2]
    over = number_of(b)
    if over == 0:
        return [-2]
    return [0] + row_of(power_over(number_of(a), number_of(e), over), len(b))


def base_fits(base):
    return 2 <= base <= len(DIGITS)


def bytes_of(number, base):
    """The number in that base, the highest digit first."""
    told = [ord(DIGITS[number % base])]
    rest = number // base
    while rest != 0:
        told.append(ord(DIGITS[rest % base]))
        rest = rest // base
    return list(reversed(told))


def text(base, most, a):
    """How many bytes a has in that base, then they; or -2, or -7: more than most."""
    if not length_fits(a) or not base_fits(base) or not 0 <= most <= MOST_TOLD:
        return [-2]
    told = bytes_of(number_of(a), base)
    if len(told) > most:
        return [-7]
    return [len(told)] + told


def digit_of(byte):
    """The digit that the byte stands for; None where it is one in no base."""
    if ord("0") <= byte <= ord("9"):
        return byte - ord("0")
    if ord("a") <= byte <= ord("z"):
        return byte - ord("a") + 10
    if ord("A") <= byte <= ord("Z"):
        return byte - ord("A") + 10
    return None


def all_digits(t, base):
    for byte in t:
        digit = digit_of(byte)
        if digit is None or digit >= base:
            return False
    return True


def number_told(t, base):
    """The number that a text of digits alone tells in that base."""
    number = 0
    for byte in t:
        number = number * base + digit_of(byte)
    return number


def read(base, most, t):
    """0, then the number that t tells in that base, in most words; or -2, or -3: other bytes, or -7: it is longer."""
    if not length_fits(t) or not base_fits(base) or not 1 <= most <= MOST_LENGTH:
        return [-2]
    # A text with other bytes tells no number, so its length in words isn't asked.
    if not all_digits(t, base):
        return [-3]
    number = number_told(t, base)
    if number.bit_length() > WORD_BITS * most:
        return [-7]
    return [0] + row_of(number, most)
