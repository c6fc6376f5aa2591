"""What several test files share."""

import unittest

from genomereads.bench import genome

LEAST = -2147483648
GREATEST = 2147483647


class Sealed(list):
    """A list that fails at any change, also one that would be taken back later."""

    def refuse(self, *args, **kwargs):
        raise AssertionError("a list that was handed in is changed")

    __setitem__ = __delitem__ = __iadd__ = __imul__ = refuse
    append = clear = extend = insert = pop = remove = reverse = sort = refuse


def copied(value):
    return [copied(part) for part in value] if isinstance(value, list) else value


def sealed(value):
    return Sealed(sealed(part) for part in value) if isinstance(value, list) else value


def packed_bytes(codes):
    # One great number, so that the tests don't repeat the way the program goes.
    number = int("".join(str(code) for code in reversed(codes)) or "0", 4)
    return list(number.to_bytes((len(codes) + 3) // 4, "little"))


def long_codes(n):
    # Not a multiple of 4 in its rhythm, so that bases in wrong places show.
    return [(i * i + i // 7) % 4 for i in range(n)]


def mixed_codes(n, seed=1):
    # As if by chance, and yet the same each time.
    codes = []
    for place in range(n):
        seed = (seed * 1103515245 + 12345) % 2 ** 31
        codes.append(seed // 2 ** 16 % 4)
    return codes


def plain_words(codes, k):
    # Each word by itself as a text of digits to the base 4.
    digits = "".join(str(code) for code in codes)
    other = "".join(str(3 - code) for code in reversed(codes))
    n = len(codes)
    return [min(int(digits[p:p + k], 4), int(other[n - k - p:n - p], 4)) for p in range(n - k + 1)]


def plain_edits(a, b):
    # The table number by number.
    row = list(range(len(b) + 1))
    for x in a:
        before = row
        row = [before[0] + 1]
        for place, y in enumerate(b):
            row.append(min(before[place + 1] + 1, row[place] + 1, before[place] + (x != y)))
    return row[-1]


class CallCase(unittest.TestCase):
    maxDiff = 400

    def check(self, call, arguments, wanted):
        """The answer, its kinds, what was handed in, and the same once more."""
        before = copied(arguments)
        first = call(*arguments)
        self.assertIs(type(first), list)
        self.assertTrue(all(type(number) is int for number in first), "not all are whole numbers")
        self.assertEqual(first, wanted)
        self.assertEqual(arguments, before)
        first.append(7)
        first[0] = 99
        self.assertEqual(call(*arguments), wanted)
        self.assertEqual(call(*[sealed(argument) for argument in arguments]), wanted)
        self.assertEqual(arguments, before)


def codes_of(letters):
    return [b"ACGT".index(letter) for letter in letters]


def find_step(piece, most=65536):
    return [1, len(piece), most] + packed_bytes(piece)


def longest_step(piece, begin=0):
    return [2, len(piece), begin] + packed_bytes(piece)


def near_step(piece, k, most=65536):
    return [3, len(piece), k, most] + packed_bytes(piece)


def lay_step(a, b, scores, most=65536):
    return [4, len(a), len(b)] + list(scores) + [most] + packed_bytes(a) + packed_bytes(b)


def pile_step(read, place, qualities, way):
    return [5, len(read), place, len(way)] + packed_bytes(read) + list(qualities) + list(way)


def said_step(begin, end):
    return [6, begin, end]


def depth_step(begin, end):
    return [7, begin, end]


class GenomeCase(CallCase):
    def steps(self, codes, steps, parts):
        """A genome of these codes, the steps made of it, and the part of each."""
        wanted = []
        for place, part in enumerate(parts):
            wanted += part if place == 0 else [len(part)] + part
        with self.subTest(steps=[step[:12] for step in steps[:4]]):
            self.check(genome, [packed_bytes(codes), len(codes), [list(step) for step in steps]], wanted)

    def step(self, codes, step, part):
        self.steps(codes, [step], [part])
