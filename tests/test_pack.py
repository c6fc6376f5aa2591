"""Point 1: pack."""

import unittest

from checking import CallCase, long_codes, packed_bytes
from genomereads.bench import pack

LETTERS = b"ACGTacgt"


class Packed(CallCase):
    def packs(self, letters, wanted):
        self.check(pack, [list(letters)], [0, len(wanted)] + wanted)

    def test_each_letter(self):
        for letter, base in zip(LETTERS, [0, 1, 2, 3, 0, 1, 2, 3]):
            with self.subTest(letter=letter):
                self.packs([letter], [base])

    def test_no_letters(self):
        self.packs(b"", [])

    def test_first_base_lies_lowest(self):
        self.packs(b"CA", [1])
        self.packs(b"AC", [4])
        self.packs(b"AAG", [32])
        self.packs(b"AAAT", [192])
        self.packs(b"ACGT", [228])
        self.packs(b"TGCA", [27])

    def test_bytes_follow_one_another(self):
        self.packs(b"ACGTT", [228, 3])
        self.packs(b"AAAAC", [0, 1])
        self.packs(b"tttttttt", [255, 255])
        self.packs(b"acgtACGTg", [228, 228, 2])

    def test_bits_behind_the_last_base_are_0(self):
        self.packs(b"T", [3])
        self.packs(b"TT", [15])
        self.packs(b"TTT", [63])
        self.packs(b"TTTT", [255])
        self.packs(b"TTTTT", [255, 3])

    def test_most_letters(self):
        for n in (65533, 65534, 65535, 65536):
            codes = long_codes(n)
            letters = [LETTERS[code + 4 * (i % 3 == 0)] for i, code in enumerate(codes)]
            with self.subTest(n=n):
                self.packs(letters, packed_bytes(codes))


class Refused(CallCase):
    def refuses(self, letters, wanted):
        self.check(pack, [list(letters)], [wanted])

    def test_every_other_byte(self):
        for byte in range(256):
            if byte not in LETTERS:
                with self.subTest(byte=byte):
                    self.refuses([byte], 1)
                    self.refuses([65, 67, byte, 84], 3)

    def test_first_middle_and_last_place(self):
        self.refuses(b"NCGTA", 1)
        self.refuses(b"ACNTA", 3)
        self.refuses(b"ACGTN", 5)
        self.refuses(b"ACGN", 4)

    def test_first_of_several_counts(self):
        self.refuses(b"AC-TN", 3)
        self.refuses(b"ANNNN", 2)
        self.refuses([255, 0, 64], 1)

    def test_among_most_letters(self):
        letters = [LETTERS[code] for code in long_codes(65536)]
        self.refuses([0] + letters[1:], 1)
        self.refuses(letters[:32768] + [85] + letters[32769:], 32769)
        self.refuses(letters[:65535] + [255], 65536)


if __name__ == "__main__":
    unittest.main()
