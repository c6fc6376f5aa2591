"""Point 7: near."""

import itertools
import unittest

from checking import GREATEST, LEAST, GenomeCase, codes_of, mixed_codes, near_step, plain_edits


def plain_ends(codes, piece, k):
    """Every piece of the genome that ends before e, the empty one too, by itself."""
    return [
        end for end in range(1, len(codes) + 1)
        if min(plain_edits(piece, codes[begin:end]) for begin in range(end + 1)) <= k
    ]


def table_ends(codes, piece, k):
    """The table number by number, for sizes where every piece by itself takes too long."""
    column = list(range(len(piece) + 1))
    ends = []
    for place, base in enumerate(codes):
        before = column
        column = [0]
        for row, code in enumerate(piece):
            column.append(min(before[row] + (code != base), before[row + 1] + 1, column[row] + 1))
        if column[-1] <= k:
            ends.append(place + 1)
    return ends


class Near(GenomeCase):
    def finds(self, codes, piece, k, ends, most=65536):
        self.step(codes, near_step(piece, k, most), [len(ends)] + ends[:most])

    def letters(self, genome, piece, k, ends):
        self.finds(codes_of(genome), codes_of(piece), k, ends)

    def test_k_of_0_is_where_found_pieces_end(self):
        self.letters(b"GATTACAGATT", b"GATT", 0, [4, 11])
        self.letters(b"AAAAA", b"AA", 0, [2, 3, 4, 5])
        self.letters(b"GATTACA", b"GATTACA", 0, [7])
        self.letters(b"GATTACA", b"CCC", 0, [])
        self.letters(b"GATTACA", b"G", 0, [1])

    def test_k_of_m_is_every_end(self):
        self.letters(b"GATTACA", b"C", 1, [1, 2, 3, 4, 5, 6, 7])
        self.letters(b"AAAA", b"CCC", 3, [1, 2, 3, 4])
        self.letters(b"A", b"CGCGCG", 6, [1])

    def test_k_between(self):
        self.letters(b"AAAA", b"CCC", 2, [])
        self.letters(b"TTTTGATTACATTTT", b"GATCACA", 1, [11])
        self.letters(b"TTTTGATTACATTTT", b"GATTCACA", 1, [11])
        self.letters(b"TTTTGATTACATTTT", b"GATACA", 1, [11])
        self.letters(b"TTTTGATTACATTTT", b"GATTAC", 1, [9, 10, 11])

    def test_first_and_last_end(self):
        self.letters(b"CAAAG", b"C", 0, [1])
        self.letters(b"CAAAG", b"G", 0, [5])
        self.letters(b"CAAAG", b"CC", 1, [1, 2])

    def test_no_genome(self):
        self.letters(b"", b"A", 0, [])
        self.letters(b"", b"A", 1, [])
        self.letters(b"", b"ACGT", 4, [])

    def test_against_every_piece_by_itself(self):
        for codes in ([0, 1, 0, 0, 1, 1, 0], [0, 0, 0, 1, 0], [1], [0, 1]):
            for m in range(1, 5):
                for piece in itertools.product(range(2), repeat=m):
                    for k in range(m + 1):
                        self.finds(codes, list(piece), k, plain_ends(codes, list(piece), k))
        codes = mixed_codes(25)
        for piece in (mixed_codes(7, 9), codes[4:11], [0, 3] + codes[8:12]):
            for k in range(len(piece) + 1):
                self.finds(codes, piece, k, plain_ends(codes, piece, k))

    def test_most(self):
        for most in (0, 1, 3, 4, 5, 65536):
            self.finds([0] * 5, [0, 0], 0, [2, 3, 4, 5], most)
        self.finds([0] * 5, [1], 0, [], 0)

    def test_bits_behind_the_last_base(self):
        for last in range(0, 256, 4):
            self.step([0, 1, 2, 3], [3, 1, 0, 9, last + 2], [1, 3])

    def test_greater_sizes(self):
        codes = mixed_codes(600, 5)
        for piece in (codes[88:], codes[20:300] + codes[310:540], mixed_codes(512, 8), mixed_codes(63, 2)):
            for k in (0, 10, len(piece) // 2, len(piece) * 5 // 9, len(piece)):
                self.finds(codes, piece, k, table_ends(codes, piece, k))

    def test_greatest_sizes(self):
        codes = mixed_codes(65536, 5)
        self.finds(codes, codes[65024:], 0, [65536])
        self.finds(codes, codes[:512], 0, [512])
        self.finds(codes, codes[:512], 512, list(range(1, 65537)))
        self.finds([2] * 65536, [2] * 512, 500, list(range(12, 65537)))

    def test_out_of_their_ranges(self):
        for m in (0, -1, 513, 1024, LEAST, GREATEST):
            self.step([0, 1, 2, 3], [3, m, 0, 5], [-1])
        for k in (-1, 4, LEAST, GREATEST):
            self.step([0, 1, 2, 3], [3, 3, k, 5, 36], [-1])
        for most in (-1, 65537, LEAST, GREATEST):
            self.step([0, 1, 2, 3], [3, 3, 1, most, 36], [-1])


if __name__ == "__main__":
    unittest.main()
