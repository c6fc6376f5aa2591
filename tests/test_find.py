"""Point 7: find and longest."""

import itertools
import unittest

from checking import GREATEST, LEAST, GenomeCase, codes_of, find_step, long_codes, longest_step, mixed_codes


def plain_places(codes, piece):
    return [place for place in range(len(codes)) if codes[place:place + len(piece)] == piece]


def plain_longest(codes, piece):
    text = "".join(map(str, codes))
    digits = "".join(map(str, piece))
    return max(length for length in range(len(piece) + 1) if digits[:length] in text)


def short_pieces(longest):
    return [list(piece) for n in range(1, longest + 1) for piece in itertools.product(range(2), repeat=n)]


class Find(GenomeCase):
    def finds(self, codes, piece, most, places):
        self.step(codes, find_step(piece, most), [len(places)] + places[:most])

    def letters(self, genome, piece, places):
        self.finds(codes_of(genome), codes_of(piece), 65536, places)

    def test_several_places(self):
        self.letters(b"GATTACAGATT", b"GATT", [0, 7])
        self.letters(b"GATTACA", b"A", [1, 4, 6])
        self.letters(b"GATTACA", b"TAC", [3])
        self.letters(b"GATTACA", b"C", [5])
        self.letters(b"GATTACA", b"TG", [])

    def test_places_that_overlap(self):
        self.letters(b"AAAAA", b"AA", [0, 1, 2, 3])
        self.letters(b"ACACACA", b"ACA", [0, 2, 4])
        self.letters(b"AACAACAAC", b"AACAAC", [0, 3])

    def test_as_long_as_the_genome_and_longer(self):
        self.letters(b"GATTACA", b"GATTACA", [0])
        self.letters(b"GATTACA", b"GATTACC", [])
        self.letters(b"GATTACA", b"GATTACAA", [])
        self.letters(b"A", b"AA", [])

    def test_no_genome(self):
        self.letters(b"", b"A", [])
        self.letters(b"", b"GATTACA", [])

    def test_all_short_pieces(self):
        for codes in ([0, 0, 1, 0, 0, 1, 0, 0, 0], [0, 1, 0, 1, 1, 0, 1, 0, 1, 1], [0, 0, 0, 0, 1, 0, 0, 0, 0, 0]):
            for piece in short_pieces(6):
                self.finds(codes, piece, 65536, plain_places(codes, piece))

    def test_most(self):
        for most in (0, 1, 4, 5, 6, 65536):
            self.finds([0] * 6, [0, 0], most, [0, 1, 2, 3, 4])
        self.finds([0] * 6, [1], 0, [])

    def test_bits_behind_the_last_base(self):
        for last in range(0, 256, 4):
            self.steps([2, 0, 1], [[1, 1, 9, last + 1]], [[1, 2]])

    def test_great_sizes(self):
        codes = mixed_codes(65536)
        for begin, m in ((0, 1024), (64512, 1024), (30001, 1023), (5, 9)):
            piece = codes[begin:begin + m]
            self.finds(codes, piece, 65536, plain_places(codes, piece))
        self.finds([3] * 65536, [3] * 1024, 65536, list(range(64513)))
        self.finds([3] * 65536, [3], 65535, list(range(65536)))
        self.finds([3] * 65536, [3] * 1023 + [1], 65536, [])
        self.finds([3] * 1023, [3] * 1024, 65536, [])

    def test_out_of_their_ranges(self):
        for m in (0, -1, 1025, LEAST, GREATEST):
            self.step([0, 1, 2, 3], [1, m, 5], [-1])
        for most in (-1, 65537, LEAST, GREATEST):
            self.step([0, 1, 2, 3], [1, 1, most, 2], [-1])


class Longest(GenomeCase):
    def finds(self, codes, piece, begin, wanted):
        self.step(codes, longest_step(piece, begin), [wanted])

    def letters(self, genome, piece, begin, wanted):
        self.finds(codes_of(genome), codes_of(piece), begin, wanted)

    def test_from_the_first_base(self):
        self.letters(b"GATTACA", b"GATTACA", 0, 7)
        self.letters(b"GATTACA", b"TTAG", 0, 3)
        self.letters(b"GATTACA", b"ACAT", 0, 3)
        self.letters(b"GATTACA", b"CC", 0, 1)
        self.letters(b"GATTACA", b"GATTACAG", 0, 7)

    def test_from_within(self):
        self.letters(b"GATTACA", b"CCATTC", 2, 3)
        self.letters(b"GATTACA", b"CCATTC", 5, 1)
        self.letters(b"GATTACA", b"CCATTC", 1, 2)
        self.letters(b"GATTACA", b"CCATTCGAT", 5, 1)
        self.letters(b"GATTACA", b"CCATTCGAT", 6, 3)

    def test_from_behind_the_last_base(self):
        self.letters(b"GATTACA", b"GATTACA", 7, 0)
        self.letters(b"GATTACA", b"G", 1, 0)

    def test_nothing_stands(self):
        self.letters(b"AAAA", b"C", 0, 0)
        self.letters(b"AAAA", b"CAAAA", 0, 0)
        self.letters(b"AAAA", b"ACG", 1, 0)

    def test_no_genome(self):
        self.letters(b"", b"ACG", 0, 0)
        self.letters(b"", b"ACG", 3, 0)

    def test_all_short_pieces(self):
        for codes in ([0, 0, 1, 0, 0, 1, 0, 0, 0], [0, 1, 0, 1, 1, 0, 1, 0, 1, 1], [0, 0, 0, 0, 1, 0, 0]):
            for piece in short_pieces(7):
                for begin in {0, len(piece) // 2}:
                    self.finds(codes, piece, begin, plain_longest(codes, piece[begin:]))

    def test_bits_behind_the_last_base(self):
        for last in range(0, 256, 4):
            self.step([0, 1, 2, 3], [2, 1, 0, last + 2], [1])
            self.step([0, 0, 0, 0], [2, 5, 3, 63, last], [2])
            self.step([0, 0, 0, 0], [2, 5, 3, 63, last + 1], [1])

    def test_great_sizes(self):
        codes = mixed_codes(65536)
        self.finds(codes, codes[64512:], 0, 1024)
        self.finds(codes, [0] + codes[64513:], 1, 1023)
        piece = codes[40000:40500] + long_codes(524)
        self.finds(codes, piece, 0, plain_longest(codes, piece))
        self.finds(codes, piece, 100, plain_longest(codes, piece[100:]))
        self.finds([1] * 65536, [1] * 1023 + [2], 0, 1023)
        self.finds([1] * 700, [1] * 1024, 0, 700)
        self.finds([1] * 700, [1] * 1024, 1024, 0)

    def test_out_of_their_ranges(self):
        for m in (0, -1, 1025, LEAST, GREATEST):
            self.step([0, 1, 2, 3], [2, m, 0], [-1])
        for begin in (-1, 4, LEAST, GREATEST):
            self.step([0, 1, 2, 3], [2, 3, begin, 36], [-1])


if __name__ == "__main__":
    unittest.main()
