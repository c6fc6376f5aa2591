"""Point 1: unpack, and unpack of what pack wrote."""

import unittest

from checking import GREATEST, LEAST, CallCase, long_codes, packed_bytes
from genomereads.bench import pack, unpack


class Unpacked(CallCase):
    def unpacks(self, bases, n, letters):
        self.check(unpack, [list(bases), n], [0, n] + list(letters))

    def test_each_base_as_a_capital(self):
        self.unpacks([0], 1, b"A")
        self.unpacks([1], 1, b"C")
        self.unpacks([2], 1, b"G")
        self.unpacks([3], 1, b"T")

    def test_no_bases(self):
        self.unpacks([], 0, b"")

    def test_first_base_lies_lowest(self):
        self.unpacks([36], 3, b"ACG")
        self.unpacks([228], 4, b"ACGT")
        self.unpacks([27], 4, b"TGCA")
        self.unpacks([228, 2], 5, b"ACGTG")
        self.unpacks([228, 27], 8, b"ACGTTGCA")

    def test_bits_behind_the_last_base_are_nothing(self):
        for last in range(256):
            letter = b"ACGT"[last % 4]
            with self.subTest(last=last):
                self.unpacks([last], 1, [letter])
                self.unpacks([228, last], 5, list(b"ACGT") + [letter])
        self.unpacks([240], 2, b"AA")
        self.unpacks([228], 3, b"ACG")
        self.unpacks([192], 3, b"AAA")

    def test_most_bases(self):
        for n in (65533, 65534, 65535, 65536):
            codes = long_codes(n)
            with self.subTest(n=n):
                self.unpacks(packed_bytes(codes), n, [b"ACGT"[code] for code in codes])

    def test_n_out_of_its_range(self):
        for n in (-1, -2, -65536, 65537, 65538, LEAST, GREATEST):
            with self.subTest(n=n):
                self.check(unpack, [[], n], [-1])


class ThereAndBack(CallCase):
    def gives_back(self, letters):
        packed = pack(list(letters))
        self.assertEqual(packed[:2], [0, (len(letters) + 3) // 4])
        self.check(unpack, [packed[2:], len(letters)], [0, len(letters)] + list(bytes(letters).upper()))

    def test_all_short_pieces(self):
        pieces = [b""]
        while len(pieces[0]) < 5:
            for piece in pieces:
                self.gives_back(piece)
            pieces = [piece + letter for piece in pieces for letter in (b"A", b"c", b"G", b"t")]

    def test_capitals_and_small_letters(self):
        self.gives_back(b"ACGTacgt")
        self.gives_back(b"tgcaTGCAa")

    def test_most_letters(self):
        self.gives_back([b"ACGTacgt"[(code * 5 + i) % 8] for i, code in enumerate(long_codes(65536))])

    def test_a_call_between_changes_nothing(self):
        self.assertEqual(unpack([228], 4), [0, 4, 65, 67, 71, 84])
        self.assertEqual(pack([78]), [1])
        self.assertEqual(unpack([], -1), [-1])
        self.assertEqual(unpack([228], 4), [0, 4, 65, 67, 71, 84])
        self.assertEqual(pack([84]), [0, 1, 3])


if __name__ == "__main__":
    unittest.main()
