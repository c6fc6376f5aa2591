"""Point 5: edits."""

import itertools
import unittest

from checking import GREATEST, LEAST, CallCase, long_codes, mixed_codes, packed_bytes, plain_edits
from genomereads.bench import edits, pack


def by_single_edits(a, longest):
    """The document's words: how many edits one by one lead from a to each piece, no piece longer than longest."""
    reached = {a: 0}
    border = [a]
    while border:
        further = []
        for piece in border:
            for place in range(len(piece) + 1):
                made = [piece[:place] + base + piece[place:] for base in "0123"]
                made += [piece[:place] + base + piece[place + 1:] for base in ["0", "1", "2", "3", ""]]
                for other in made:
                    if len(other) <= longest and other not in reached:
                        reached[other] = reached[piece] + 1
                        further.append(other)
        border = further
    return reached


class Edits(CallCase):
    def finds(self, a, b, wanted):
        """Both ways, since edits can be taken back."""
        for left, right in ((a, b), (b, a)):
            with self.subTest(a=left[:20], b=right[:20]):
                arguments = [packed_bytes(left), len(left), packed_bytes(right), len(right)]
                self.check(edits, arguments, [wanted])

    def letters(self, a, b, wanted):
        self.finds([b"ACGT".index(letter) for letter in a], [b"ACGT".index(letter) for letter in b], wanted)

    def test_no_bases(self):
        self.letters(b"", b"", 0)
        self.letters(b"A", b"", 1)
        self.letters(b"", b"GATTACA", 7)

    def test_the_same(self):
        for n in (1, 3, 4, 5, 8, 31, 64, 100):
            self.finds(long_codes(n), long_codes(n), 0)

    def test_one_base(self):
        self.letters(b"GATTACA", b"ATTACA", 1)
        self.letters(b"GATTACA", b"GATACA", 1)
        self.letters(b"GATTACA", b"GATTAC", 1)
        self.letters(b"GATTACA", b"CGATTACA", 1)
        self.letters(b"GATTACA", b"GATCTACA", 1)
        self.letters(b"GATTACA", b"GATTACAG", 1)
        self.letters(b"GATTACA", b"CATTACA", 1)
        self.letters(b"GATTACA", b"GATCACA", 1)
        self.letters(b"GATTACA", b"GATTACT", 1)

    def test_one_base_at_every_place(self):
        codes = mixed_codes(40)
        for place in range(40):
            self.finds(codes, codes[:place] + codes[place + 1:], 1)
            self.finds(codes, codes[:place] + [3 - codes[place]] + codes[place + 1:], 1)

    def test_several(self):
        self.letters(b"AAAA", b"TTTT", 4)
        self.letters(b"AC", b"CA", 2)
        self.letters(b"ACGTACGT", b"CGTACGTA", 2)
        self.letters(b"GATTACA", b"GCATGCT", 4)
        self.letters(b"AAAAAAAA", b"A", 7)

    def test_all_short_pieces_edit_by_edit(self):
        pieces = ["".join(piece) for n in range(5) for piece in itertools.product("0123", repeat=n)]
        for a in ("", "0", "3", "01", "22", "012", "330", "0123", "1100", "3030"):
            reached = by_single_edits(a, 5)
            for b in pieces:
                wanted = reached[b]
                found = edits(packed_bytes([int(x) for x in a]), len(a), packed_bytes([int(x) for x in b]), len(b))
                self.assertEqual(found, [wanted], (a, b))

    def test_table_of_the_tests_edit_by_edit(self):
        for a in ("013", "3030"):
            reached = by_single_edits(a, 5)
            for b in itertools.product("0123", repeat=4):
                self.assertEqual(plain_edits([int(x) for x in a], [int(x) for x in b]), reached["".join(b)])

    def test_some_hundreds(self):
        for n, m in ((100, 130), (300, 300), (511, 513), (512, 600), (513, 200), (64, 700), (1025, 90)):
            a = mixed_codes(n, 3)
            self.finds(a, mixed_codes(m, 8), plain_edits(a, mixed_codes(m, 8)))
        a = mixed_codes(600)
        b = a[:100] + a[107:300] + [0, 1, 0] + a[300:511] + [3 - a[511], 3 - a[512]] + a[513:]
        self.finds(a, b, plain_edits(a, b))
        b = [code for place, code in enumerate(a) if place % 17]
        self.finds(a, b, plain_edits(a, b))

    def test_bits_behind_the_last_base(self):
        for last in range(0, 256, 4):
            self.check(edits, [[last + 1], 1, [1], 1], [0])
            self.check(edits, [[1], 1, [last + 1], 1], [0])
            self.check(edits, [[228, last], 5, [228, 252 - last], 5], [0])
        self.check(edits, [[255], 0, [255], 2], [2])

    def test_most_bases(self):
        codes = mixed_codes(4096)
        self.finds(codes, [], 4096)
        self.finds(codes, codes, 0)
        self.finds(codes, codes[1:], 1)
        other = mixed_codes(4096, 77)
        self.finds(codes, other, plain_edits(codes, other))
        self.finds([0] * 4096, [1] * 4096, 4096)
        self.finds([0] * 4096, [0, 1] * 2048, 2048)
        self.finds([0] * 4095, [3] * 2000 + [0] * 2096, 2000)
        self.finds([0, 1, 2] * 1365, [0, 2] * 1365, 1365)

    def test_out_of_their_ranges(self):
        for wrong in (-1, 4097, 65536, LEAST, GREATEST):
            with self.subTest(wrong=wrong):
                self.check(edits, [[], wrong, [228], 4], [-1])
                self.check(edits, [[228], 4, [], wrong], [-1])
                self.check(edits, [[], wrong, [], wrong], [-1])
                self.check(edits, [[], wrong, [], 0], [-1])


if __name__ == "__main__":
    unittest.main()
