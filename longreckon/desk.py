"""Reckoning with large whole numbers.

A number is handed in and told as a row: a list of 64-bit words, the lowest first.
An answer is a list that begins with 0, or a refusal's number alone:
-2 where a row's length is out of its range or b is 0 and may not be.
"""

WORD_BITS = 64
LARGEST_WORD = 18446744073709551615
MOST_WORDS = 65536


def length_fits(row):
    return 1 <= len(row) <= MOST_WORDS


def number_of(row):
    number = 0
    for word in reversed(row):
        number = (number << WORD_BITS) | word
    return number


def row_of(number, length):
    """The number's lowest words, as many as length says, with 0s at the end where it is shorter."""
    row = []
    rest = number
    while len(row) < length:
        row.append(rest & LARGEST_WORD)
        rest = rest >> WORD_BITS
    return row


def mul(a, b):
    """0, then a times b in as many words as both have; or -2."""
    if not length_fits(a) or not length_fits(b):
        return [-2]
    product = number_of(a) * number_of(b)
    return [0] + row_of(product, len(a) + len(b))


def div(a, b):
    """0, then how often b goes into a in a's length, then what is left in b's length; or -2."""
    if not length_fits(a) or not length_fits(b):
        return [-2]
    dividend = number_of(a)
    divisor = number_of(b)
    if divisor == 0:
        return [-2]
    times = dividend // divisor
    left = dividend % divisor
    return [0] + row_of(times, len(a)) + row_of(left, len(b))
