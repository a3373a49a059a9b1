"""Rows that the tests hand in, and a way between rows and numbers that the program has no part in."""

TOP = 18446744073709551615


def number(row):
    return int.from_bytes(b"".join(word.to_bytes(8, "little") for word in row), "little")


def row(value, length):
    told = value.to_bytes(8 * length, "little")
    return [int.from_bytes(told[at:at + 8], "little") for at in range(0, len(told), 8)]


def mixed(length, seed):
    """A row of words that differ in every part, the same at every run; its last word is not 0."""
    words = []
    state = seed
    for place in range(length):
        state = (state * 6364136223846793005 + 1442695040888963407) % 2 ** 64
        words.append((state ^ (state >> 29)) | 1)
    return words


def last_neighbours(limit):
    """The two largest neighbours in the row of Fibonacci's numbers that are below the limit."""
    smaller, larger = 1, 1
    while smaller + larger < limit:
        smaller, larger = larger, smaller + larger
    return smaller, larger


# Lengths and fillings whose every pair is tried: 0s alone, 0s at the end, all ones, one bit, mixed words.
SAMPLES = [
    [0], [1], [2], [TOP], [1 << 63],
    [0, 0, 0], [0, 1], [1, 0], [5, 0, 0, 0], [0, 0, 7], [TOP, TOP], [0, 1 << 63], [TOP, 0, TOP],
    [TOP - 1, TOP], [0, 0, 1 << 63], [TOP, TOP, (1 << 63) - 1],
    mixed(1, 11), mixed(2, 12), mixed(3, 13), mixed(7, 14), mixed(20, 15) + [0, 0],
    mixed(63, 16), mixed(64, 17), mixed(32, 18) + [0] * 32, [0] * 63 + [1], [TOP] * 64, [0] * 64,
]


# The largest most that text takes, bases that are tried throughout, and bases out of their range.
LARGEST_MOST = 4194304
BASES = (2, 3, 8, 10, 16, 35, 36)
WRONG_BASES = (0, 1, 37, 38, 64, 256, 4294967295)


def spelled(value, base):
    """The value in that base, found from the highest digit down."""
    place = 1
    while place * base <= value:
        place *= base
    told = ""
    while place > 0:
        told += "0123456789abcdefghijklmnopqrstuvwxyz"[value // place]
        value %= place
        place //= base
    return told


class Watched(list):
    """A list that refuses every change, so that one that is undone later is seen too."""

    def refuse(self, *args, **kwargs):
        raise AssertionError("a list that was handed in is changed")

    append = clear = extend = insert = pop = remove = reverse = sort = refuse
    __setitem__ = __delitem__ = __iadd__ = __imul__ = refuse


def check_leaves_alone(case, call, *handed):
    """The call changes no list that it is handed, and answers a plain list of its own, each time the same."""
    before = [list(each) for each in handed]
    first = call(*handed)
    case.assertEqual([list(each) for each in handed], before)
    kept = list(first)
    first.append(99)
    first[0] = 77
    case.assertEqual(call(*handed), kept)
    case.assertEqual([list(each) for each in handed], before)
    case.assertEqual(call(*[Watched(each) for each in handed]), kept)
    case.assertIs(type(first), list)
    for told in kept:
        case.assertIs(type(told), int)
