"""Point 3: words."""

import unittest

from checking import GREATEST, LEAST, CallCase, long_codes, packed_bytes, plain_words
from genomereads.bench import pack, turn, words


class Words(CallCase):
    def finds(self, bases, n, k, wanted):
        with self.subTest(n=n, k=k):
            self.check(words, [list(bases), n, k], [len(wanted), len(wanted)] + wanted)

    def letters(self, letters, k, wanted):
        self.finds(pack(list(letters))[2:], len(letters), k, wanted)

    def test_as_told(self):
        self.letters(b"ACGT", 2, [1, 6, 1])
        self.check(words, [[228], 4, 2], [3, 3, 1, 6, 1])

    def test_first_base_highest(self):
        self.letters(b"AC", 2, [1])
        self.letters(b"AACC", 4, [5])
        self.letters(b"AAAAG", 5, [2])
        self.letters(b"CAA", 3, [16])

    def test_less_greater_and_equal(self):
        self.letters(b"AAC", 3, [1])
        self.letters(b"GTT", 3, [1])
        self.letters(b"ACGT", 4, [27])
        self.letters(b"TTTT", 4, [0])
        self.letters(b"T", 1, [0])
        self.letters(b"ACGT", 1, [0, 1, 1, 0])
        self.letters(b"CG", 2, [6])
        self.letters(b"TA", 2, [12])

    def test_no_words(self):
        self.finds([], 0, 1, [])
        self.finds([], 0, 31, [])
        self.finds([228], 4, 5, [])
        self.finds([228], 4, 31, [])
        self.finds(packed_bytes(long_codes(30)), 30, 31, [])
        self.check(words, [[228], 4, 6], [0, 0])

    def test_k_equal_to_n_and_next_to_it(self):
        for n in (1, 2, 3, 4, 5, 8, 30, 31):
            codes = long_codes(n)
            self.finds(packed_bytes(codes), n, n, plain_words(codes, n))
            if n < 31:
                self.finds(packed_bytes(codes), n, n + 1, [])
            if n > 1:
                self.finds(packed_bytes(codes), n, n - 1, plain_words(codes, n - 1))

    def test_longest_words(self):
        self.letters(b"C" * 31, 31, [(4 ** 31 - 1) // 3])
        self.letters(b"G" * 31, 31, [(4 ** 31 - 1) // 3])
        self.letters(b"T" * 33, 31, [0, 0, 0])
        self.letters(b"T" + b"C" * 29 + b"A", 31, [3 * 4 ** 30 + 4 * (4 ** 29 - 1) // 3])

    def test_every_k(self):
        for k in range(1, 32):
            for n in (k + 7, 77):
                codes = long_codes(n)
                self.finds(packed_bytes(codes), n, k, plain_words(codes, k))

    def test_other_strand_has_the_same_words_backwards(self):
        bases = packed_bytes(long_codes(90))
        for k in (1, 2, 7, 30, 31):
            there = words(bases, 90, k)
            back = words(turn(bases, 90)[2:], 90, k)
            self.assertEqual(there[2:], back[:1:-1])

    def test_bits_behind_the_last_base(self):
        for last in range(256):
            self.finds([228, last], 5, 2, plain_words([0, 1, 2, 3, last % 4], 2))

    def test_most_bases(self):
        codes = long_codes(65536)
        for k in (1, 2, 30, 31):
            self.finds(packed_bytes(codes), 65536, k, plain_words(codes, k))

    def test_out_of_their_ranges(self):
        for k in (0, 32, -1, LEAST, GREATEST):
            with self.subTest(k=k):
                self.check(words, [[228], 4, k], [-1])
                self.check(words, [[], 0, k], [-1])
        for n in (-1, 65537, LEAST, GREATEST):
            with self.subTest(n=n):
                self.check(words, [[], n, 2], [-1])


if __name__ == "__main__":
    unittest.main()
