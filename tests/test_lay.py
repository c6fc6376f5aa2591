"""Point 8: lay."""

import itertools
import unittest

from checking import GREATEST, LEAST, GenomeCase, codes_of, lay_step, mixed_codes, packed_bytes
from genomereads.bench import genome

NEXT = {"M": (1, 1), "I": (1, 0), "D": (0, 1)}


def worth_of(a, b, i, j, letters, scores):
    """The worth of a way that begins at place i of a and j of b, row by row as the document tells it."""
    alike, unlike, gap, more = scores
    worth = 0
    for letter, row in itertools.groupby(letters):
        row = len(list(row))
        if letter != "M":
            worth -= gap + more * row
            i += row * NEXT[letter][0]
            j += row * NEXT[letter][1]
        else:
            for step in range(row):
                worth += alike if a[i + step] == b[j + step] else -unlike
            i += row
            j += row
    return worth


def ways_between(n, m):
    """All rows of letters that take n bases of a and m of b."""
    if n == 0 and m == 0:
        return [""]
    found = []
    for letter, (in_a, in_b) in NEXT.items():
        if n >= in_a and m >= in_b:
            found += [way + letter for way in ways_between(n - in_a, m - in_b)]
    return found


def greatest_worths(a, b, scores):
    """Of all ways that end at each place, every one by itself, the greatest worth."""
    found = {}
    for i in range(len(a) + 1):
        for j in range(len(b) + 1):
            worths = [0]
            for begin in itertools.product(range(i + 1), range(j + 1)):
                for way in ways_between(i - begin[0], j - begin[1]):
                    worths.append(worth_of(a, b, begin[0], begin[1], way, scores))
            found[i, j] = max(worths)
    return found


def table_worths(a, b, scores):
    """The same from the greatest worths ahead, with every length of a last row, for sizes beyond a few bases."""
    alike, unlike, gap, more = scores
    found = {}
    for i in range(len(a) + 1):
        for j in range(len(b) + 1):
            worths = [0]
            if i > 0 and j > 0:
                worths.append(found[i - 1, j - 1] + (alike if a[i - 1] == b[j - 1] else -unlike))
            worths += [found[i - row, j] - gap - more * row for row in range(1, i + 1)]
            worths += [found[i, j - row] - gap - more * row for row in range(1, j + 1)]
            found[i, j] = max(worths)
    return found


def plain_part(a, b, scores, found):
    """What the document's words make of the greatest worths."""
    greatest = max(found.values())
    if greatest == 0:
        return [0, 0, 0, 0, 0, 0]
    j, i = min((j, i) for (i, j), worth in found.items() if worth == greatest)
    told = [greatest, 0, i, 0, j]
    way = ""
    while found[i, j] > 0:
        if found[i - 1, j - 1] + worth_of(a, b, i - 1, j - 1, "M", scores) == found[i, j]:
            row = "M"
        else:
            rows = ["D" * length for length in range(1, j + 1)] + ["I" * length for length in range(1, i + 1)]
            row = next(
                row for row in rows
                if found[i - row.count("I"), j - row.count("D")] + worth_of(a, b, 0, 0, row, scores) == found[i, j]
            )
        way = row + way
        i -= len(row) - row.count("D")
        j -= len(row) - row.count("I")
    told[1] = i
    told[3] = j
    return [len(way)] + told + [ord(letter) for letter in way]


class Lay(GenomeCase):
    def lays(self, a, b, scores, worth, in_a, in_b, way, most=65536):
        part = [len(way), worth] + list(in_a) + list(in_b) + list(way)
        self.step([], lay_step(codes_of(a), codes_of(b), scores, most), part)

    def lays_nothing(self, a, b, scores, most=0):
        self.lays(a, b, scores, 0, (0, 0), (0, 0), b"", most)

    def test_as_told(self):
        self.check(genome, [[228], 4, [[4, 4, 4, 2, 1, 1, 1, 100, 228, 228]]], [4, 8, 0, 4, 0, 4, 77, 77, 77, 77])

    def test_alike_bases(self):
        self.lays(b"ACGT", b"ACGT", (2, 1, 1, 1), 8, (0, 4), (0, 4), b"MMMM")
        self.lays(b"TTACG", b"ACGAA", (1, 5, 5, 5), 3, (2, 5), (0, 3), b"MMM")
        self.lays(b"ACGAA", b"TTACG", (1, 5, 5, 5), 3, (0, 3), (2, 5), b"MMM")
        self.lays(b"C", b"AC", (127, 0, 0, 0), 127, (0, 1), (1, 2), b"M")

    def test_unlike_bases_within(self):
        self.lays(b"ACGTA", b"ACCTA", (2, 1, 9, 9), 7, (0, 5), (0, 5), b"MMMMM")
        self.lays(b"ACGTA", b"ACCTA", (2, 4, 9, 9), 4, (0, 2), (0, 2), b"MM")
        self.lays(b"ACGTA", b"ACCTA", (2, 3, 9, 9), 5, (0, 5), (0, 5), b"MMMMM")

    def test_first_end_in_b_then_in_a(self):
        self.lays(b"ACTAC", b"ACGGAC", (1, 9, 9, 9), 2, (0, 2), (0, 2), b"MM")
        self.lays(b"GTAC", b"ACTTGT", (1, 9, 9, 9), 2, (2, 4), (0, 2), b"MM")
        self.lays(b"ACTTGT", b"GTAC", (1, 9, 9, 9), 2, (4, 6), (0, 2), b"MM")
        self.lays(b"AA", b"A", (3, 3, 3, 3), 3, (0, 1), (0, 1), b"M")
        self.lays(b"A", b"AA", (3, 3, 3, 3), 3, (0, 1), (0, 1), b"M")
        self.lays(b"CA", b"AC", (3, 3, 3, 3), 3, (1, 2), (0, 1), b"M")

    def test_rows_of_i_and_of_d(self):
        self.lays(b"AACCGGTT", b"AACCTT", (5, 9, 2, 1), 26, (0, 8), (0, 6), b"MMMMIIMM")
        self.lays(b"AACCTT", b"AACCGGTT", (5, 9, 2, 1), 26, (0, 6), (0, 8), b"MMMMDDMM")
        self.lays(b"AACCGTT", b"AACCTT", (5, 9, 2, 1), 27, (0, 7), (0, 6), b"MMMMIMM")
        self.lays(b"AACCTT", b"AACCGTT", (5, 9, 2, 1), 27, (0, 6), (0, 7), b"MMMMDMM")

    def test_gap_once_and_more_for_each(self):
        self.lays(b"ACGGGTA", b"ACTA", (9, 50, 10, 0), 26, (0, 7), (0, 4), b"MMIIIMM")
        self.lays(b"ACGGGTA", b"ACTA", (9, 50, 0, 5), 21, (0, 7), (0, 4), b"MMIIIMM")
        self.lays(b"ACGGGTA", b"ACTA", (9, 50, 0, 6), 18, (0, 2), (0, 2), b"MM")
        self.lays(b"ACTA", b"ACGGGTA", (9, 50, 10, 0), 26, (0, 4), (0, 7), b"MMDDDMM")
        self.lays(b"ACTA", b"ACGGGTA", (9, 50, 17, 0), 19, (0, 4), (0, 7), b"MMDDDMM")
        self.lays(b"ACTA", b"ACGGGTA", (9, 50, 18, 0), 18, (0, 2), (0, 2), b"MM")

    def test_no_row_at_the_ends(self):
        self.lays(b"GGACGT", b"ACGTTT", (2, 9, 0, 0), 8, (2, 6), (0, 4), b"MMMM")
        self.lays(b"ACGT", b"GGACGTCC", (2, 9, 0, 0), 8, (0, 4), (2, 6), b"MMMM")

    def test_d_ahead_of_i_from_the_end_on(self):
        self.lays(b"AACTT", b"AAGTT", (5, 100, 1, 1), 16, (0, 5), (0, 5), b"MMIDMM")
        self.lays(b"AACCTT", b"AAGGGTT", (9, 100, 1, 1), 29, (0, 6), (0, 7), b"MMIIDDDMM")
        self.lays(b"AACTT", b"AAGTT", (5, 4, 1, 1), 16, (0, 5), (0, 5), b"MMMMM")

    def test_m_ahead_of_rows(self):
        self.lays(b"ACCT", b"ACT", (5, 9, 2, 1), 12, (0, 4), (0, 3), b"MIMM")
        self.lays(b"ACT", b"ACCT", (5, 9, 2, 1), 12, (0, 3), (0, 4), b"MDMM")
        self.lays(b"ACACGT", b"ACGT", (2, 1, 0, 0), 8, (2, 6), (0, 4), b"MMMM")

    def test_a_row_ends_as_soon_as_it_may(self):
        self.lays(b"AC", b"AAGC", (4, 9, 2, 0), 6, (0, 2), (1, 4), b"MDM")
        self.lays(b"AACG", b"AG", (4, 9, 2, 0), 6, (1, 4), (0, 2), b"MIM")
        self.lays(b"ACA", b"ACCGA", (3, 9, 0, 1), 7, (0, 3), (0, 5), b"MDMDM")
        self.lays(b"AGGCA", b"AGA", (3, 9, 0, 1), 7, (0, 5), (0, 3), b"MIMIM")
        # Here only I stands ahead of where D may end first, and D could go on to the same worth.
        self.lays(b"ACAC", b"AAGAC", (4, 9, 1, 0), 10, (0, 4), (1, 5), b"MIDMM")
        self.lays(b"ACGA", b"CAAGGA", (5, 9, 1, 1), 11, (0, 4), (2, 6), b"MIDMM")

    def test_begins_where_nothing_is_worth_more_than_0(self):
        self.lays(b"ACGG", b"ATGG", (1, 1, 9, 9), 2, (2, 4), (2, 4), b"MM")
        self.lays(b"CGG", b"TGG", (1, 0, 9, 9), 2, (1, 3), (1, 3), b"MM")
        self.lays(b"AACGG", b"AATGG", (1, 1, 9, 9), 3, (0, 5), (0, 5), b"MMMMM")

    def test_nothing_above_0(self):
        self.lays_nothing(b"", b"", (1, 1, 1, 1))
        self.lays_nothing(b"ACGT", b"", (127, 0, 0, 0))
        self.lays_nothing(b"", b"ACGT", (127, 0, 0, 0))
        self.lays_nothing(b"AAAA", b"CCCC", (127, 0, 0, 0))
        self.lays_nothing(b"AAAA", b"GT", (127, 127, 127, 127), 5)
        self.lays_nothing(b"ACGT", b"ACGT", (0, 1, 1, 1))

    def test_all_scores_0_and_127(self):
        self.lays_nothing(b"ACGT", b"ACGT", (0, 0, 0, 0))
        self.lays(b"ACGT", b"ACGT", (127, 127, 127, 127), 508, (0, 4), (0, 4), b"MMMM")
        self.lays(b"ACGTT", b"TACGA", (127, 127, 127, 127), 381, (0, 3), (1, 4), b"MMM")
        self.lays(b"AACCGGT", b"AACCTGGT", (127, 127, 127, 127), 635, (0, 7), (0, 8), b"MMMMDMMM")

    def test_most(self):
        for most in (6, 7, 65536):
            self.lays(b"AACTT", b"AAGTT", (5, 100, 1, 1), 16, (0, 5), (0, 5), b"MMIDMM", most)
        for most in (5, 1, 0):
            self.step([], lay_step(codes_of(b"AACTT"), codes_of(b"AAGTT"), (5, 100, 1, 1), most), [-2])
        self.step([0], lay_step([0], [0], (1, 1, 1, 1), 0), [-2])
        self.lays(b"A", b"A", (1, 1, 1, 1), 1, (0, 1), (0, 1), b"M", 1)

    def test_bits_behind_the_last_base(self):
        for last in range(0, 256, 4):
            self.step([], [4, 1, 1, 2, 1, 1, 1, 9, last + 1, 253 - last], [1, 2, 0, 1, 0, 1, 77])
            self.step([], [4, 5, 1, 2, 1, 1, 1, 9, 0, last + 1, 253 - last], [1, 2, 4, 5, 0, 1, 77])


class AgainstPlainReckonings(GenomeCase):
    def test_every_way_by_itself(self):
        pieces = [list(piece) for n in range(4) for piece in itertools.product(range(2), repeat=n)]
        for scores in ((2, 1, 1, 1), (3, 2, 0, 1), (1, 1, 0, 0), (4, 9, 1, 0), (2, 0, 0, 1)):
            for a in pieces:
                for b in pieces:
                    wanted = plain_part(a, b, scores, greatest_worths(a, b, scores))
                    found = genome([], 0, [lay_step(a, b, scores)])
                    self.assertEqual(found, wanted, (a, b, scores))

    def test_table_of_the_tests(self):
        for scores in ((5, 3, 0, 1), (3, 9, 2, 0), (2, 9, 1, 1)):
            for seed in range(1, 9):
                a = [code % 3 for code in mixed_codes(4, seed)]
                b = [code % 3 for code in mixed_codes(4, seed + 50)]
                self.assertEqual(table_worths(a, b, scores), greatest_worths(a, b, scores), (a, b, scores))

    def test_some_dozens(self):
        seed = 0
        for alike, unlike, gap, more in itertools.product((1, 5), (0, 2, 20), (0, 1, 3), (0, 1, 2)):
            for kinds, n, m in ((2, 7, 9), (3, 12, 8), (4, 15, 22)):
                seed += 1
                a = [code % kinds for code in mixed_codes(n, seed)]
                b = [code % kinds for code in mixed_codes(m, seed + 1000)]
                scores = (alike, unlike, gap, more)
                wanted = plain_part(a, b, scores, table_worths(a, b, scores))
                self.assertEqual(genome([], 0, [lay_step(a, b, scores)]), wanted, (a, b, scores))

    def test_a_piece_with_some_edits(self):
        a = mixed_codes(90, 4)
        b = a[3:20] + a[24:50] + [0, 1, 2] + a[50:70] + [3 - a[70]] + a[71:85]
        for scores in ((1, 1, 1, 1), (2, 3, 5, 2), (5, 4, 10, 1), (127, 127, 127, 127), (10, 127, 0, 3)):
            self.step([], lay_step(a, b, scores), plain_part(a, b, scores, table_worths(a, b, scores)))


class Great(GenomeCase):
    def test_most_bases(self):
        codes = mixed_codes(1024, 6)
        self.step([], lay_step(codes, codes, (127, 127, 127, 127)), [1024, 130048, 0, 1024, 0, 1024] + [77] * 1024)
        self.step([], lay_step(codes, codes, (1, 1, 1, 1), 1023), [-2])

    def test_rows_among_most_bases(self):
        codes = mixed_codes(1024, 6)
        # The base on either side of a row is another than those within, so that the row has one place alone.
        a = codes[:500] + [3 - codes[500], 3 - codes[499]] + codes[500:1022]
        way = [77] * 500 + [73] * 2 + [77] * 522
        self.step([], lay_step(a, codes[:1022], (3, 9, 2, 1)), [1024, 3 * 1022 - 4, 0, 1024, 0, 1022] + way)
        way = [77] * 500 + [68] * 2 + [77] * 522
        self.step([], lay_step(codes[:1022], a, (3, 9, 2, 1)), [1024, 3 * 1022 - 4, 0, 1022, 0, 1024] + way)

    def test_long_rows(self):
        a = [0] * 10 + [2] * 1004 + [1] * 10
        b = [0] * 10 + [1] * 10
        way = [77] * 10 + [73] * 1004 + [77] * 10
        self.step([], lay_step(a, b, (127, 9, 127, 0)), [1024, 20 * 127 - 127, 0, 1024, 0, 20] + way)
        way = [77] * 10 + [68] * 1004 + [77] * 10
        self.step([], lay_step(b, a, (127, 9, 127, 1)), [1024, 20 * 127 - 127 - 1004, 0, 20, 0, 1024] + way)

    def test_great_worths_are_kept_whole(self):
        self.step([], lay_step([3] * 1024, [3] * 1024, (127, 0, 0, 0)), [1024, 130048, 0, 1024, 0, 1024] + [77] * 1024)
        self.step([], lay_step([3] * 1024, [1] * 1024, (127, 0, 0, 0)), [0, 0, 0, 0, 0, 0])


class Refused(GenomeCase):
    def refuses(self, numbers, a, b):
        self.step([0, 1, 2, 3], [4] + numbers + packed_bytes(a) + packed_bytes(b), [-1])

    def test_each_score_out_of_its_range(self):
        for place in range(4):
            for wrong in (-1, 128, LEAST, GREATEST):
                scores = [2, 1, 1, 1]
                scores[place] = wrong
                self.refuses([4, 4] + scores + [100], [0, 1, 2, 3], [0, 1, 2, 3])

    def test_most_out_of_its_range(self):
        for wrong in (-1, -2, 65537, LEAST, GREATEST):
            self.refuses([4, 4, 2, 1, 1, 1, wrong], [0, 1, 2, 3], [0, 1, 2, 3])
            self.refuses([0, 0, 2, 1, 1, 1, wrong], [], [])

    def test_n_and_m_out_of_their_ranges(self):
        for wrong in (-1, 1025, LEAST, GREATEST):
            self.refuses([wrong, 4, 2, 1, 1, 1, 100], [], [0, 1, 2, 3])
            self.refuses([4, wrong, 2, 1, 1, 1, 100], [0, 1, 2, 3], [])
            self.refuses([wrong, wrong, 2, 1, 1, 1, 100], [], [])

    def test_a_wrong_number_counts_more_than_most(self):
        self.refuses([4, 4, 2, 128, 1, 1, 0], [0, 1, 2, 3], [0, 1, 2, 3])


if __name__ == "__main__":
    unittest.main()
