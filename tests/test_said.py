"""Point 10: said and depth."""

import unittest

from checking import GREATEST, LEAST, GenomeCase, codes_of, depth_step, mixed_codes, pile_step, said_step


def base(letter, quality):
    return pile_step(codes_of(letter), 0, [33 + quality], b"M")


def over():
    return pile_step([], 0, [], b"D")


class Said(GenomeCase):
    def says(self, piles, letter):
        """One place with these reads, next to one with none."""
        self.steps([3, 3], piles + [said_step(0, 2)], [[0]] * len(piles) + [[0] + list(letter + b"N")])

    def test_no_read(self):
        self.says([], b"N")
        self.says([pile_step([], 0, [], b"")], b"N")
        self.says([pile_step([0, 1], 0, [40, 40], b"II")], b"N")

    def test_one_read(self):
        for letter in (b"A", b"C", b"G", b"T"):
            self.says([base(letter, 1)], letter)
            self.says([base(letter, 93)], letter)

    def test_more_than_half_go_over(self):
        self.says([over()], b"-")
        self.says([over(), over(), base(b"C", 93)], b"-")
        self.says([base(b"C", 93), base(b"G", 93), over(), over(), over()], b"-")
        self.says([base(b"C", 1)] * 4 + [over()] * 5, b"-")

    def test_just_half_go_over(self):
        self.says([over(), base(b"C", 1)], b"C")
        self.says([over(), over(), base(b"C", 5), base(b"G", 6)], b"G")
        self.says([base(b"T", 1)] * 5 + [over()] * 5, b"T")

    def test_less_than_half_go_over(self):
        self.says([over(), base(b"C", 1), base(b"C", 1)], b"C")
        self.says([over(), base(b"C", 1), base(b"G", 2)], b"G")
        self.says([over()] * 4 + [base(b"A", 0)] * 5, b"A")

    def test_the_greatest_weight(self):
        self.says([base(b"A", 3), base(b"A", 3), base(b"A", 3), base(b"T", 10)], b"T")
        self.says([base(b"A", 3), base(b"A", 3), base(b"A", 4), base(b"T", 9)], b"A")
        self.says([base(b"G", 3), base(b"C", 2), base(b"G", 3), base(b"C", 5)], b"C")

    def test_the_first_of_several(self):
        self.says([base(b"T", 7), base(b"G", 7), base(b"C", 7), base(b"A", 7)], b"A")
        self.says([base(b"T", 7), base(b"G", 7), base(b"C", 7)], b"C")
        self.says([base(b"T", 7), base(b"G", 7), base(b"A", 6)], b"G")
        self.says([base(b"T", 8), base(b"C", 4), base(b"C", 4)], b"C")

    def test_weights_of_0(self):
        # The words ask for the first of the bases with the greatest weight, and here all have 0.
        self.says([base(b"T", 0)], b"A")
        self.says([base(b"G", 0), base(b"G", 0), over()], b"A")
        self.says([base(b"G", 0), base(b"C", 1)], b"C")

    def test_every_stretch(self):
        read = codes_of(b"GATTAC")
        whole = b"NGA-TTACN"
        for begin in range(10):
            for end in range(begin, 10):
                steps = [pile_step(read, 1, [50] * 6, b"MMDMMMM"), said_step(begin, end)]
                self.steps([0] * 9, steps, [[0], [0] + list(whole[begin:end])])

    def test_from_equal_to_to(self):
        for place in range(5):
            self.step([0, 1, 2, 3], said_step(place, place), [0])
        self.step([], said_step(0, 0), [0])

    def test_out_of_their_ranges(self):
        for begin, end in (
            (-1, 0), (-1, -1), (-1, 4), (0, 5), (4, 5), (5, 5), (3, 2), (4, 3), (1, 0), (0, -1), (LEAST, 2),
            (LEAST, LEAST), (0, LEAST), (0, GREATEST), (GREATEST, GREATEST), (GREATEST, 0), (LEAST, GREATEST),
        ):
            self.step([0, 1, 2, 3], said_step(begin, end), [-1])

    def test_most_bases(self):
        self.step(mixed_codes(65536), said_step(0, 65536), [0] + [78] * 65536)
        steps = [pile_step([3], 65535, [40], b"M"), said_step(65530, 65536), said_step(65536, 65536)]
        self.steps([0] * 65536, steps, [[0], [0] + list(b"NNNNNT"), [0]])


class Depth(GenomeCase):
    def tells(self, begin, end, least, greatest):
        """Depths 0, 2, 2, 3, 1, 0: counts of different bases, and one that goes over."""
        piles = [
            pile_step([0, 1, 2], 1, [40] * 3, b"MMM"), pile_step([3, 3], 1, [40] * 2, b"MMD"),
            pile_step([2, 0, 1], 3, [40] * 3, b"MIM"),
        ]
        self.steps([0] * 6, piles + [depth_step(begin, end)], [[0]] * 3 + [[0, least, greatest]])

    def test_every_stretch(self):
        depths = [0, 2, 2, 3, 1, 0]
        for begin in range(6):
            for end in range(begin + 1, 7):
                self.tells(begin, end, min(depths[begin:end]), max(depths[begin:end]))

    def test_no_reads(self):
        self.step([0, 1, 2, 3], depth_step(0, 4), [0, 0, 0])
        self.step([0], depth_step(0, 1), [0, 0, 0])

    def test_counts_and_those_that_go_over_are_added(self):
        piles = [base(b"A", 0), base(b"C", 9), base(b"G", 9), base(b"T", 9), base(b"T", 9), over(), over()]
        self.steps([0], piles + [depth_step(0, 1)], [[0]] * 7 + [[0, 7, 7]])

    def test_from_equal_to_to(self):
        for place in range(5):
            self.step([0, 1, 2, 3], depth_step(place, place), [-1])
        self.step([], depth_step(0, 0), [-1])

    def test_out_of_their_ranges(self):
        for begin, end in (
            (-1, 0), (-1, -1), (-1, 4), (0, 5), (4, 5), (5, 6), (3, 2), (4, 3), (1, 0), (0, -1), (LEAST, 2),
            (LEAST, LEAST), (0, LEAST), (0, GREATEST), (GREATEST, GREATEST), (GREATEST, 0), (LEAST, GREATEST),
        ):
            self.step([0, 1, 2, 3], depth_step(begin, end), [-1])
        self.step([], depth_step(0, 1), [-1])

    def test_most_bases(self):
        steps = [pile_step([3], 65535, [40], b"M"), depth_step(0, 65536), depth_step(65535, 65536)]
        self.steps([0] * 65536, steps, [[0], [0, 0, 1], [0, 1, 1]])


if __name__ == "__main__":
    unittest.main()
