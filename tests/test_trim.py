"""Point 6: trim."""

import itertools
import unittest

from checking import GREATEST, LEAST, CallCase
from genomereads.bench import trim


def plain_trim(worths):
    """Every stretch by itself: the greatest sum, of those the first to begin, then the first to end."""
    best = (0, 0, 0)
    for begin in range(len(worths)):
        for end in range(begin + 1, len(worths) + 1):
            total = sum(worths[begin:end])
            if total > 0:
                best = min(best, (-total, begin, end))
    return list(best[1:])


class Trimmed(CallCase):
    def trims(self, worths, least, begin, end):
        """The worths are qualities less least."""
        with self.subTest(worths=worths[:20], least=least):
            self.check(trim, [[33 + least + worth for worth in worths], least], [0, 2, begin, end])

    def test_no_qualities(self):
        self.trims([], 0, 0, 0)
        self.trims([], 93, 0, 0)

    def test_no_sum_above_0(self):
        self.trims([-1, -5, -2], 20, 0, 0)
        self.trims([0, 0, 0], 20, 0, 0)
        self.trims([0, -1, 0], 20, 0, 0)
        self.trims([0], 0, 0, 0)
        self.trims([0], 93, 0, 0)

    def test_one_stretch(self):
        self.trims([1], 20, 0, 1)
        self.trims([-1, 1], 20, 1, 2)
        self.trims([1, -1], 20, 0, 1)
        self.trims([-3, 5, 2, -9, 1], 20, 1, 3)
        self.trims([-3, 5, -2, 4, -1], 20, 1, 4)
        self.trims([5, -6, 4], 20, 0, 1)
        self.trims([4, -6, 5], 20, 2, 3)
        self.trims([2, 2, 2], 20, 0, 3)

    def test_several_with_the_same_sum(self):
        self.trims([3, -5, 3], 20, 0, 1)
        self.trims([3, -3, 3], 20, 0, 1)
        self.trims([-1, 2, -9, 1, 1, -9, 2], 20, 1, 2)
        self.trims([1, -1, 2, -5, 2], 20, 0, 3)

    def test_sums_of_0_ahead_and_behind(self):
        self.trims([0, 2], 20, 0, 2)
        self.trims([0, 0, 2, 0, 0], 20, 0, 3)
        self.trims([2, -2, 3, -3, 3], 20, 0, 3)
        self.trims([-1, 0, 4, 0], 20, 1, 3)
        self.trims([-1, 1, -1, 4], 20, 1, 4)
        self.trims([-4, 1, -1, 0, 4, -2, 2, -9], 20, 1, 5)
        self.trims([1, -2, 0, 3], 20, 2, 4)

    def test_every_short_row(self):
        for n in range(7):
            for worths in itertools.product((-2, -1, 0, 1, 2), repeat=n):
                found = trim([63 + worth for worth in worths], 30)
                self.assertEqual(found, [0, 2] + plain_trim(worths), worths)

    def test_qualities_0_to_93(self):
        self.check(trim, [[33, 126], 0], [0, 2, 0, 2])
        self.check(trim, [[33], 0], [0, 2, 0, 0])
        self.check(trim, [[34], 0], [0, 2, 0, 1])
        self.check(trim, [[126], 92], [0, 2, 0, 1])
        self.check(trim, [[126], 93], [0, 2, 0, 0])
        self.check(trim, [[33, 126, 126, 33], 93], [0, 2, 0, 0])
        for quality in range(94):
            self.check(trim, [[33 + quality], 50], [0, 2, 0, 1 if quality > 50 else 0])

    def test_most_qualities(self):
        self.check(trim, [[126] * 65536, 0], [0, 2, 0, 65536])
        self.check(trim, [[33] * 65536, 0], [0, 2, 0, 0])
        self.check(trim, [[33] * 65535 + [34], 0], [0, 2, 0, 65536])
        self.check(trim, [[33] * 65535 + [126], 92], [0, 2, 65535, 65536])
        self.check(trim, [[33, 126] * 32768, 46], [0, 2, 1, 65536])


class Refused(CallCase):
    def test_every_byte(self):
        for byte in range(256):
            with self.subTest(byte=byte):
                if byte < 33 or byte > 126:
                    self.check(trim, [[byte], 0], [1])
                    self.check(trim, [[40, byte, 40], 20], [2])
                else:
                    self.assertEqual(trim([byte], 0)[:2], [0, 2])

    def test_first_middle_and_last_place(self):
        for byte in (0, 32, 127, 255):
            self.check(trim, [[byte, 50, 60], 10], [1])
            self.check(trim, [[50, byte, 60], 10], [2])
            self.check(trim, [[50, 60, byte], 10], [3])

    def test_first_of_several_counts(self):
        self.check(trim, [[50, 127, 32, 0], 10], [2])
        self.check(trim, [[255, 0], 10], [1])
        self.check(trim, [[33, 126, 32, 32, 60], 10], [3])

    def test_among_most_qualities(self):
        self.check(trim, [[126] * 65535 + [127], 0], [65536])
        self.check(trim, [[33] * 40000 + [32] + [126] * 25535, 5], [40001])

    def test_least_out_of_its_range(self):
        for least in (-1, 94, LEAST, GREATEST):
            with self.subTest(least=least):
                self.check(trim, [[50, 60], least], [-1])
                self.check(trim, [[], least], [-1])
                self.check(trim, [[32, 60], least], [-1])
                self.check(trim, [[60, 0, 255], least], [-1])


if __name__ == "__main__":
    unittest.main()
