"""Point 2: count."""

import unittest

from checking import GREATEST, LEAST, CallCase, long_codes, packed_bytes
from genomereads.bench import count


class Counted(CallCase):
    def counts(self, bases, n, begin, end, wanted):
        self.check(count, [list(bases), n, begin, end], [0, 4] + wanted)

    def test_each_base_in_its_place(self):
        self.counts([0], 1, 0, 1, [1, 0, 0, 0])
        self.counts([1], 1, 0, 1, [0, 1, 0, 0])
        self.counts([2], 1, 0, 1, [0, 0, 1, 0])
        self.counts([3], 1, 0, 1, [0, 0, 0, 1])
        self.counts([228, 228, 3], 9, 0, 9, [2, 2, 2, 3])

    def test_no_bases(self):
        self.counts([], 0, 0, 0, [0, 0, 0, 0])

    def test_empty_stretches(self):
        for place in range(6):
            with self.subTest(place=place):
                self.counts([228, 3], 5, place, place, [0, 0, 0, 0])

    def test_every_stretch(self):
        codes = long_codes(18)
        for begin in range(19):
            for end in range(begin, 19):
                part = codes[begin:end]
                with self.subTest(begin=begin, end=end):
                    self.counts(packed_bytes(codes), 18, begin, end, [part.count(base) for base in range(4)])

    def test_within_a_byte(self):
        self.counts([228], 4, 1, 3, [0, 1, 1, 0])
        self.counts([228, 228], 8, 3, 6, [1, 1, 0, 1])
        self.counts([228, 228], 8, 5, 7, [0, 1, 1, 0])

    def test_bits_behind_the_last_base(self):
        for last in range(256):
            wanted = [0, 0, 0, 0]
            wanted[last % 4] = 1
            with self.subTest(last=last):
                self.counts([last], 1, 0, 1, wanted)
        self.counts([228, 255], 5, 0, 5, [1, 1, 1, 2])
        self.counts([228, 252], 5, 4, 5, [1, 0, 0, 0])

    def test_most_bases(self):
        codes = long_codes(65536)
        bases = packed_bytes(codes)
        for begin, end in ((0, 65536), (1, 65535), (65535, 65536), (65536, 65536), (32767, 50001)):
            part = codes[begin:end]
            with self.subTest(begin=begin, end=end):
                self.counts(bases, 65536, begin, end, [part.count(base) for base in range(4)])


class Refused(CallCase):
    def refuses(self, bases, n, begin, end):
        with self.subTest(n=n, begin=begin, end=end):
            self.check(count, [list(bases), n, begin, end], [-1])

    def test_n_out_of_its_range(self):
        for n in (-1, -2, 65537, LEAST, GREATEST):
            self.refuses([], n, 0, 0)
            self.refuses([], n, n, n)

    def test_begin_out_of_its_range(self):
        for begin in (-1, -4, 4, 6, LEAST, GREATEST):
            self.refuses([228, 3], 5, begin, 3)
        for begin in (-1, LEAST):
            self.refuses([228, 3], 5, begin, begin)
            self.refuses([228, 3], 5, begin, 5)

    def test_end_out_of_its_range(self):
        for end in (-1, 0, 1, 6, 8, LEAST, GREATEST):
            self.refuses([228, 3], 5, 2, end)
        self.refuses([228, 3], 5, 6, 6)
        self.refuses([228, 3], 5, GREATEST, GREATEST)
        self.refuses([228, 3], 5, 5, 6)

    def test_of_no_bases(self):
        self.refuses([], 0, 0, 1)
        self.refuses([], 0, -1, 0)
        self.refuses([], 0, 1, 1)
        self.refuses([], 0, 1, 0)


if __name__ == "__main__":
    unittest.main()
