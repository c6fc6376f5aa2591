"""Point 3: minimizers."""

import unittest

from checking import GREATEST, LEAST, CallCase, long_codes, mixed_codes, packed_bytes, plain_words
from genomereads.bench import minimizers, pack
from genomereads.words import stirred


def plain_stirred(x):
    """The document's words one by one, with division in the stead of shifts."""
    for factor in ("ff51afd7ed558ccd", "c4ceb9fe1a85ec53"):
        x = x ^ (x // 2 ** 33)
        x = x * int(factor, 16)
        x = x - x // 2 ** 64 * 2 ** 64
    return x ^ (x // 2 ** 33)


def plain_minimizers(codes, k, w):
    """Each window by itself."""
    numbers = [plain_stirred(word) for word in plain_words(codes, k)]
    places = set()
    for begin in range(len(numbers) - w + 1):
        window = numbers[begin:begin + w]
        places.add(begin + window.index(min(window)))
    return sorted(places)


class Minimizers(CallCase):
    def finds(self, bases, n, k, w, most, places):
        with self.subTest(n=n, k=k, w=w, most=most):
            told = places[:most]
            self.check(minimizers, [list(bases), n, k, w, most], [len(places), len(told)] + told)

    def letters(self, letters, k, w, places):
        self.finds(pack(list(letters))[2:], len(letters), k, w, 65536, places)

    def test_as_told(self):
        self.check(minimizers, [[228], 4, 2, 2, 1], [2, 1, 0])

    def test_stirring(self):
        # Known values, so that a fault here can't be in both reckonings.
        self.assertEqual(plain_stirred(0), 0)
        self.assertEqual(plain_stirred(1), 0xB456BCFC34C2CB2C)
        self.assertEqual(plain_stirred(6), 16768224888744592755)
        for x in (0, 1, 6, 2 ** 33 - 1, 2 ** 33, 2 ** 61 + 12345, 2 ** 62 - 1, 2 ** 64 - 1):
            self.assertEqual(stirred(x), plain_stirred(x))

    def test_every_pair_of_words_of_two(self):
        for number in range(64):
            codes = [number // 16, number // 4 % 4, number % 4]
            self.finds(packed_bytes(codes), 3, 2, 2, 9, plain_minimizers(codes, 2, 2))

    def test_fewer_words_than_w_as_many_and_more(self):
        codes = mixed_codes(12)
        bases = packed_bytes(codes)
        self.finds([], 0, 1, 1, 5, [])
        self.finds(bases, 12, 13, 1, 5, [])
        self.finds(bases, 12, 12, 1, 5, [0])
        self.finds(bases, 12, 12, 2, 5, [])
        self.finds(bases, 12, 5, 9, 5, [])
        self.finds(bases, 12, 5, 256, 5, [])
        for w in (8, 7, 6, 1):
            places = plain_minimizers(codes, 5, w)
            self.finds(bases, 12, 5, w, 65536, places)
        self.assertEqual(len(plain_minimizers(codes, 5, 8)), 1)

    def test_w_of_1_is_every_place(self):
        self.letters(b"GATTACA", 3, 1, [0, 1, 2, 3, 4])
        self.letters(b"AAAA", 1, 1, [0, 1, 2, 3])

    def test_first_of_equal_words(self):
        self.letters(b"AAAAAA", 2, 3, [0, 1, 2])
        self.letters(b"AAAAAA", 2, 5, [0])
        self.letters(b"ATATATAT", 1, 4, [0, 1, 2, 3, 4])
        # C stirred is 1 stirred, which is above 0: A's first place counts.
        self.letters(b"CACAC", 1, 3, [1, 3])
        self.letters(b"CCACC", 1, 3, [2])

    def test_told_once_and_rising(self):
        self.letters(b"CCCACCC", 1, 4, [3])
        codes = mixed_codes(400)
        places = plain_minimizers(codes, 6, 20)
        self.assertLess(len(places), 381)
        self.assertEqual(minimizers(packed_bytes(codes), 400, 6, 20, 65536)[2:], places)
        self.assertEqual(places, sorted(set(places)))

    def test_against_each_window_by_itself(self):
        for n in (31, 100, 257, 300, 518):
            for codes in (mixed_codes(n), long_codes(n), [place // 9 % 4 for place in range(n)]):
                for k, w in ((1, 2), (1, 256), (2, 7), (5, 10), (15, 10), (30, 2), (31, 1), (31, 256), (31, 50)):
                    self.finds(packed_bytes(codes), n, k, w, 65536, plain_minimizers(codes, k, w))

    def test_most(self):
        codes = mixed_codes(60)
        places = plain_minimizers(codes, 4, 5)
        self.assertGreater(len(places), 5)
        for most in (0, 1, 2, len(places) - 1, len(places), len(places) + 1, 65536):
            self.finds(packed_bytes(codes), 60, 4, 5, most, places)

    def test_bits_behind_the_last_base(self):
        for last in range(0, 256, 4):
            self.finds([228, last + 1], 5, 2, 2, 9, plain_minimizers([0, 1, 2, 3, 1], 2, 2))

    def test_most_bases(self):
        codes = mixed_codes(65536)
        self.finds(packed_bytes(codes), 65536, 31, 256, 65536, plain_minimizers(codes, 31, 256))
        self.finds(packed_bytes(codes), 65536, 1, 1, 65536, list(range(65536)))
        self.finds(packed_bytes(codes), 65536, 1, 1, 65535, list(range(65536)))

    def test_out_of_their_ranges(self):
        for place, wrong in enumerate(([-1, 65537], [0, 32], [0, 257], [-1, 65537])):
            for number in wrong + [-1, LEAST, GREATEST]:
                numbers = [4, 2, 2, 1]
                numbers[place] = number
                with self.subTest(numbers=numbers):
                    self.check(minimizers, [[] if place == 0 else [228]] + numbers, [-1])


if __name__ == "__main__":
    unittest.main()
