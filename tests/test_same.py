"""Point 2: same."""

import unittest

from checking import GREATEST, LEAST, CallCase, long_codes, packed_bytes
from genomereads.bench import pack, same


class Same(CallCase):
    def finds(self, a, i, b, j, n, wanted):
        with self.subTest(i=i, j=j, n=n):
            self.check(same, [list(a), i, list(b), j, n], [wanted])

    def letters(self, a, i, b, j, n, wanted):
        self.finds(pack(list(a[:i + n]))[2:], i, pack(list(b[:j + n]))[2:], j, n, wanted)

    def test_no_bases(self):
        self.finds([], 0, [], 0, 0, 0)
        self.finds([228], 4, [228], 3, 0, 0)
        self.finds([228, 1], 5, [], 0, 0, 0)

    def test_each_base(self):
        for left in range(4):
            for right in range(4):
                self.finds([left], 0, [right], 0, 1, int(left == right))

    def test_all_none_and_some(self):
        self.letters(b"ACGTACG", 0, b"ACGTACG", 0, 7, 7)
        self.letters(b"ACGTACG", 0, b"CGTACGT", 0, 7, 0)
        self.letters(b"ACGTACG", 0, b"AGGTTCA", 0, 7, 4)
        self.letters(b"TACGTACG", 1, b"ACGTACG", 0, 7, 7)
        self.letters(b"ACGTACG", 0, b"GGGGGACGTACG", 5, 7, 7)

    def test_begins_within_bytes_and_at_their_edges(self):
        a = long_codes(30)
        b = [(code + place // 5) % 4 for place, code in enumerate(long_codes(33))]
        for i in range(13):
            for j in range(13):
                for n in (1, 2, 3, 4, 5, 8, 17):
                    wanted = sum(a[i + step] == b[j + step] for step in range(n))
                    self.finds(packed_bytes(a[:i + n]), i, packed_bytes(b[:j + n]), j, n, wanted)

    def test_bases_ahead_and_behind_change_nothing(self):
        for ahead in range(4):
            self.finds([ahead + 4], 1, [1], 0, 1, 1)
            self.finds([1], 0, [ahead + 4], 1, 1, 1)
        for last in range(0, 256, 4):
            self.finds([last + 2], 0, [2], 0, 1, 1)
            self.finds([2], 0, [last + 2], 0, 1, 1)
            self.finds([last + 2], 0, [3], 0, 1, 0)
        self.finds([255], 0, [255], 0, 2, 2)

    def test_the_same_list_for_both(self):
        bases = packed_bytes(long_codes(9))
        codes = long_codes(9)
        self.assertEqual(same(bases, 0, bases, 1, 8), [sum(codes[p] == codes[p + 1] for p in range(8))])

    def test_most_bases(self):
        a = long_codes(131072)
        b = [(code + (place % 3 == 0)) % 4 for place, code in enumerate(a)]
        for i in (0, 65536):
            for j in (0, 65536):
                wanted = sum(left == right for left, right in zip(a[i:i + 65536], b[j:j + 65536]))
                self.finds(packed_bytes(a[:i + 65536]), i, packed_bytes(b[:j + 65536]), j, 65536, wanted)
        self.finds(packed_bytes(a[:65536]), 65536, packed_bytes(b[:65536]), 65536, 0, 0)

    def test_out_of_their_ranges(self):
        for wrong in (-1, 65537, LEAST, GREATEST):
            with self.subTest(wrong=wrong):
                self.check(same, [[], wrong, [], 0, 0], [-1])
                self.check(same, [[], 0, [], wrong, 0], [-1])
                self.check(same, [[], 0, [], 0, wrong], [-1])


if __name__ == "__main__":
    unittest.main()
