"""Reckoning with large whole numbers.

A number is handed in and told as a row: a list of 64-bit words, the lowest first.
An answer is a list that begins with 0, or a refusal's number alone:
-2 where a row's length is out of its range or b is 0 and may not be.
"""

WORD_BITS = 64
LARGEST_WORD = 18446744073709551615
MOST_WORDS = 65536


def length_fits(row):
    return 1 <= len(row) <= MOST_WORDS


def number_of(row):
    number = 0
    for word in reversed(row):
        number = (number << WORD_BITS) | word
    return number


def row_of(number, length):
    """The number's lowest words, as many as length says, with 0s at the end where it is shorter."""
    row = []
    rest = number
    while len(row) < length:
        row.append(rest & LARGEST_WORD)
        rest = rest >> WORD_BITS
    return row


def mul(a, b):
    """0, then a times b in as many words as both have; or -2."""
    if not length_fits(a) or not length_fits(b):
        return [-2]
    product = number_of(a) * number_of(b)
    return [0] + row_of(product, len(a) + len(b))


def div(a, b):
    """0, then how often b goes into a in a's length, then what is left in b's length; or -2."""
    if not length_fits(a) or not length_fits(b):
        return [-2]
    dividend = number_of(a)
    divisor = number_of(b)
    if divisor == 0:
        return [-2]
    times = dividend // divisor
    left = dividend % divisor
    return [0] + row_of(times, len(a)) + row_of(left, len(b))


def root_of(number):
    """The largest number whose square isn't above the given one."""
    if number == 0:
        return 0
    # Newton's steps come down to the root only from at or above it, and this start is never below it.
    guess = 1 << ((number.bit_length() + 1) // 2)
    closer = (guess + number // guess) // 2
    while closer < guess:
        guess = closer
        closer = (guess + number // guess) // 2
    return guess


def root(a):
    """0, then the largest number whose square isn't above a, then a less its square, each in a's length; or -2."""
    if not length_fits(a):
        return [-2]
    square = number_of(a)
    side = root_of(square)
    return [0] + row_of(side, len(a)) + row_of(square - side * side, len(a))


def common_divisor(one, other):
    """The greatest number that divides both; 0 of two 0s."""
    found = one
    rest = other
    while rest != 0:
        left = found % rest
        found = rest
        rest = left
    return found


def gcd(a, b):
    """0, then the greatest number that divides a and b in as many words as both have; or -2."""
    if not length_fits(a) or not length_fits(b):
        return [-2]
    divisor = common_divisor(number_of(a), number_of(b))
    return [0] + row_of(divisor, len(a) + len(b))
