"""Reckoning with large whole numbers.

A number is handed in and told as a row: a list of 64-bit words, the lowest first.
An answer is a list that begins with 0, or a refusal's number alone:
-2 where a row's length is out of its range or b is 0 and may not be; it comes ahead of every other.
-5 where no number is the one that turn asks for.
"""

WORD_BITS = 64
LARGEST_WORD = 18446744073709551615
MOST_WORDS = 65536


def length_fits(row):
    return 1 <= len(row) <= MOST_WORDS


def number_of(row):
    number = 0
    for word in reversed(row):
        number = (number << WORD_BITS) | word
    return number


def row_of(number, length):
    """The number's lowest words, as many as length says, with 0s at the end where it is shorter."""
    row = []
    rest = number
    while len(row) < length:
        row.append(rest & LARGEST_WORD)
        rest = rest >> WORD_BITS
    return row


def mul(a, b):
    """0, then a times b in as many words as both have; or -2."""
    if not length_fits(a) or not length_fits(b):
        return [-2]
    product = number_of(a) * number_of(b)
    return [0] + row_of(product, len(a) + len(b))


def div(a, b):
    """0, then how often b goes into a in a's length, then what is left in b's length; or -2."""
    if not length_fits(a) or not length_fits(b):
        return [-2]
    dividend = number_of(a)
    divisor = number_of(b)
    if divisor == 0:
        return [-2]
    times = dividend // divisor
    left = dividend % divisor
    return [0] + row_of(times, len(a)) + row_of(left, len(b))


def root_of(number):
    """The largest number whose square isn't above the given one."""
    if number == 0:
        return 0
    # Newton's steps come down to the root only from at or above it, and this start is never below it.
    guess = 1 << ((number.bit_length() + 1) // 2)
    closer = (guess + number // guess) // 2
    while closer < guess:
        guess = closer
        closer = (guess + number // guess) // 2
    return guess


def root(a):
    """0, then the largest number whose square isn't above a, then a less its square, each in a's length; or -2."""
    if not length_fits(a):
        return [-2]
    square = number_of(a)
    side = root_of(square)
    return [0] + row_of(side, len(a)) + row_of(square - side * side, len(a))


def common_divisor(one, other):
    """The greatest number that divides both; 0 of two 0s."""
    found = one
    rest = other
    while rest != 0:
        left = found % rest
        found = rest
        rest = left
    return found


def gcd(a, b):
    """0, then the greatest number that divides a and b in as many words as both have; or -2."""
    if not length_fits(a) or not length_fits(b):
        return [-2]
    divisor = common_divisor(number_of(a), number_of(b))
    return [0] + row_of(divisor, len(a) + len(b))


def turned(number, over):
    """The number below over that, times the given one, leaves 1; the two have no common divisor but 1."""
    found = over
    rest = number % over
    # At each step, factor times number leaves found, and closer times number leaves rest, but for multiples of over.
    factor = 0
    closer = 1
    while rest != 0:
        times = found // rest
        left = found - times * rest
        found = rest
        rest = left
        further = factor - times * closer
        factor = closer
        closer = further
    # The factors are below 0 at every second step.
    return factor % over


def turn(a, b):
    """0, then the number below b that, times a, leaves 1 over b (0 of b 1), in b's length; or -2, or -5: none."""
    if not length_fits(a) or not length_fits(b):
        return [-2]
    number = number_of(a)
    over = number_of(b)
    if over == 0:
        return [-2]
    if common_divisor(number, over) != 1:
        return [-5]
    return [0] + row_of(turned(number, over), len(b))


def power_over(number, exponent, over):
    """What is left over the last number of the first to the power of the second."""
    # Over 1 even the power of 0 leaves 0.
    result = 1 % over
    square = number % over
    rest = exponent
    while rest != 0:
        if (rest & 1) == 1:
            result = result * square % over
        square = square * square % over
        rest = rest >> 1
    return result


def power(a, e, b):
    """0, then what is left over b of a to the power of e (0 to the power of 0 is 1), in b's length; or -2."""
    if not length_fits(a) or not length_fits(e) or not length_fits(b):
        return [-2]
    over = number_of(b)
    if over == 0:
        return [-2]
    return [0] + row_of(power_over(number_of(a), number_of(e), over), len(b))
