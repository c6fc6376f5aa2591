"""Point 1: turn."""

import unittest

from checking import GREATEST, LEAST, CallCase, long_codes, packed_bytes
from genomereads.bench import pack, turn, unpack

SIZES = (0, 1, 2, 3, 4, 5, 6, 7, 8, 9, 65533, 65534, 65535, 65536)


class Turned(CallCase):
    def turns(self, bases, n, wanted):
        self.check(turn, [list(bases), n], [0, len(wanted)] + wanted)

    def test_each_base_alone(self):
        self.turns([0], 1, [3])
        self.turns([1], 1, [2])
        self.turns([2], 1, [1])
        self.turns([3], 1, [0])

    def test_no_bases(self):
        self.turns([], 0, [])

    def test_from_the_end_on(self):
        for letters, other in (
            (b"AC", b"GT"), (b"AAC", b"GTT"), (b"ACGT", b"ACGT"), (b"AAAA", b"TTTT"), (b"GATTACA", b"TGTAATC"),
            (b"CAAAA", b"TTTTG"), (b"ACCCGGTA", b"TACCGGGT"), (b"TCGATTGCA", b"TGCAATCGA"),
        ):
            with self.subTest(letters=letters):
                bases = pack(list(letters))[2:]
                self.turns(bases, len(letters), pack(list(other))[2:])
                self.assertEqual(bytes(unpack(turn(bases, len(letters))[2:], len(letters))[2:]), other)

    def test_sizes(self):
        for n in SIZES:
            codes = long_codes(n)
            other = ["3210"[code] for code in codes]
            other.reverse()
            with self.subTest(n=n):
                self.turns(packed_bytes(codes), n, packed_bytes([int(code) for code in other]))

    def test_bits_behind_the_last_base_are_nothing_and_written_as_0(self):
        for n in (1, 2, 3):
            for last in range(256):
                base = last % 4 ** n
                clean = turn([base], n)
                with self.subTest(n=n, last=last):
                    self.assertLess(clean[2], 4 ** n)
                    self.turns([last], n, clean[2:])
        self.turns([228, 255], 5, [144, 3])
        self.turns([255], 1, [0])
        self.turns([252], 1, [3])
        self.turns([192], 3, [63])
        self.turns([255, 240], 6, [15, 0])

    def test_twice_is_the_first(self):
        for n in SIZES:
            bases = packed_bytes(long_codes(n))
            with self.subTest(n=n):
                self.assertEqual(turn(turn(bases, n)[2:], n), [0, len(bases)] + bases)

    def test_n_out_of_its_range(self):
        for n in (-1, -2, -4, 65537, 65540, LEAST, GREATEST):
            with self.subTest(n=n):
                self.check(turn, [[], n], [-1])


if __name__ == "__main__":
    unittest.main()
