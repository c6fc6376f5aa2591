"""Point 9: pile, and what said and depth tell of it."""

import unittest

from checking import GREATEST, LEAST, GenomeCase, codes_of, depth_step, long_codes, mixed_codes, pile_step, said_step
from genomereads.piling import Reads


class PlainPile:
    """Counts, weights and those that go over of each place by itself."""

    def __init__(self, length):
        self.places = [{"count": [0] * 4, "weight": [0] * 4, "over": 0} for place in range(length)]

    def add(self, read, place, qualities, way):
        left = list(zip(read, qualities))
        for letter in bytes(way).decode():
            if letter == "D":
                self.places[place]["over"] += 1
            else:
                base, quality = left.pop(0)
                if letter == "M":
                    self.places[place]["count"][base] += 1
                    self.places[place]["weight"][base] += quality - 33
            place += letter != "I"
        assert not left

    def depths(self):
        return [sum(place["count"]) + place["over"] for place in self.places]

    def said(self):
        letters = []
        for place, depth in zip(self.places, self.depths()):
            greatest = max(place["weight"])
            letter = "ACGT"[place["weight"].index(greatest)]
            letters.append("N" if depth == 0 else "-" if place["over"] > depth - place["over"] else letter)
        return "".join(letters).encode()


class PileCase(GenomeCase):
    def piles(self, codes, piles, numbers, said, depths):
        """What each pile answers, then the letters of the whole genome and the depth of each of its places."""
        steps = piles + [said_step(0, len(codes))]
        parts = [[number] for number in numbers] + [[0] + list(said)]
        for place, depth in enumerate(depths):
            steps.append(depth_step(place, place + 1))
            parts.append([0, depth, depth])
        self.steps(codes, steps, parts)


class Piled(PileCase):
    def read(self, letters, place, way, said, depths, qualities=None):
        """A read on a genome of six bases."""
        step = pile_step(codes_of(letters), place, qualities or [50] * len(letters), way)
        self.piles([0] * 6, [step], [0], said, depths)

    def test_m(self):
        self.read(b"GTC", 0, b"MMM", b"GTCNNN", [1, 1, 1, 0, 0, 0])
        self.read(b"GTC", 2, b"MMM", b"NNGTCN", [0, 0, 1, 1, 1, 0])
        self.read(b"T", 4, b"M", b"NNNNTN", [0, 0, 0, 0, 1, 0])

    def test_i_passes_a_base(self):
        self.read(b"GTC", 1, b"IMM", b"NTCNNN", [0, 1, 1, 0, 0, 0])
        self.read(b"GTC", 1, b"MIM", b"NGCNNN", [0, 1, 1, 0, 0, 0])
        self.read(b"GTC", 1, b"MMI", b"NGTNNN", [0, 1, 1, 0, 0, 0])
        self.read(b"GTC", 1, b"III", b"NNNNNN", [0, 0, 0, 0, 0, 0])

    def test_d_goes_over(self):
        self.read(b"GT", 1, b"MDM", b"NG-TNN", [0, 1, 1, 1, 0, 0])
        self.read(b"GT", 1, b"DMM", b"N-GTNN", [0, 1, 1, 1, 0, 0])
        self.read(b"GT", 1, b"MMDD", b"NGT--N", [0, 1, 1, 1, 1, 0])
        self.read(b"", 0, b"DDDDDD", b"------", [1, 1, 1, 1, 1, 1])

    def test_all_together(self):
        self.read(b"GTCT", 0, b"MDIMDM", b"G-C-TN", [1, 1, 1, 1, 1, 0])
        self.read(b"GTCTC", 2, b"IIMIDDM", b"NNC--C", [0, 0, 1, 1, 1, 1])

    def test_place_at_the_ends(self):
        self.read(b"GTCAGT", 0, b"MMMMMM", b"GTCAGT", [1, 1, 1, 1, 1, 1])
        self.read(b"G", 5, b"M", b"NNNNNG", [0, 0, 0, 0, 0, 1])
        self.read(b"", 5, b"D", b"NNNNN-", [0, 0, 0, 0, 0, 1])
        self.read(b"GG", 6, b"II", b"NNNNNN", [0, 0, 0, 0, 0, 0])
        self.read(b"GC", 5, b"MI", b"NNNNNG", [0, 0, 0, 0, 0, 1])
        self.read(b"", 6, b"", b"NNNNNN", [0, 0, 0, 0, 0, 0])

    def test_n_and_len_of_0(self):
        for place in range(7):
            self.read(b"", place, b"", b"NNNNNN", [0, 0, 0, 0, 0, 0])
        self.read(b"", 2, b"D", b"NN-NNN", [0, 0, 1, 0, 0, 0])

    def test_every_base_has_its_own_count_and_weight(self):
        for base in range(4):
            weak = [pile_step([other], 0, [33 + 5], b"M") for other in range(4) if other != base]
            self.piles([0], weak + [pile_step([base], 0, [33 + 6], b"M")], [0] * 4, [b"ACGT"[base]], [4])

    def test_a_quality_belongs_to_its_base(self):
        strong = pile_step(codes_of(b"CCCC"), 0, [33 + 9, 33 + 1, 33 + 9, 33 + 1], b"MMIM")
        weak = pile_step(codes_of(b"TTT"), 0, [33 + 5] * 3, b"MMM")
        self.piles([0] * 3, [strong, weak], [0, 0], b"CTT", [2, 2, 2])

    def test_weights_are_added(self):
        reads = [pile_step([1], 0, [33 + 4], b"M")] * 3
        self.piles([0], reads + [pile_step([3], 0, [33 + 11], b"M")], [0] * 4, b"C", [4])
        self.piles([0], reads + [pile_step([3], 0, [33 + 13], b"M")], [0] * 4, b"T", [4])

    def test_qualities_0_to_93(self):
        self.piles([0], [pile_step([2], 0, [126], b"M"), pile_step([1], 0, [125], b"M")], [0, 0], b"G", [2])
        self.piles([0], [pile_step([2], 0, [34], b"M"), pile_step([1], 0, [33], b"M")], [0, 0], b"G", [2])
        self.piles([0], [pile_step([2], 0, [33], b"M"), pile_step([1], 0, [34], b"M")], [0, 0], b"C", [2])

    def test_bits_behind_the_last_base(self):
        for last in range(0, 256, 4):
            self.piles([0, 0], [[5, 1, 1, 1, last + 3, 50, 77]], [0], b"NT", [0, 1])

    def test_the_longest_reads(self):
        codes = long_codes(1500)
        read = mixed_codes(1024)
        said = b"N" * 400 + bytes(b"ACGT"[code] for code in read[:800]) + b"N" * 300
        steps = [pile_step(read, 400, [40] * 1024, b"M" * 800 + b"I" * 224), said_step(0, 1500)]
        self.steps(codes, steps, [[0], [0] + list(said)])
        steps = [pile_step([], 0, [], b"D" * 2000), depth_step(0, 2000), depth_step(1999, 2001)]
        self.steps([0] * 2001, steps, [[0], [0, 1, 1], [0, 0, 1]])
        steps = [pile_step([], 4, [], b"D" * 4096), depth_step(4, 4100), depth_step(3, 5), depth_step(4099, 4101)]
        self.steps([0] * 4101, steps, [[0], [0, 1, 1], [0, 0, 1], [0, 0, 1]])

    def test_against_a_plain_pile(self):
        for seed in range(1, 30):
            plain = PlainPile(9)
            steps = []
            for number in range(5):
                chance = mixed_codes(60, 100 * seed + number)
                way = [b"MMID"[code] for code in chance[:6]]
                n = len(way) - way.count(68)
                read = chance[10:10 + n]
                qualities = [33 + 3 * code + 7 * (code > 2) for code in chance[20:20 + n]]
                plain.add(read, chance[40], qualities, way)
                steps.append(pile_step(read, chance[40], qualities, way))
            self.piles([0] * 9, steps, [0] * 5, plain.said(), plain.depths())


class Refused(PileCase):
    def refuses(self, step):
        """Between two others, and alone."""
        good = pile_step(codes_of(b"GCT"), 1, [50, 60, 70], b"MMM")
        self.piles([0] * 5, [good, step, good], [0, -1, 0], b"NGCTN", [0, 2, 2, 2, 0])
        self.piles([0] * 5, [step], [-1], b"NNNNN", [0, 0, 0, 0, 0])

    def read(self, letters, place, way, qualities=None):
        self.refuses(pile_step(codes_of(letters), place, qualities or [126] * len(letters), way))

    def test_another_letter(self):
        for other in (0, 32, 61, 67, 69, 72, 74, 76, 78, 88, 100, 105, 109, 255):
            self.read(b"AAA", 1, [other, 77, 77])
            self.read(b"AAA", 1, [77, other, 77])
            self.read(b"AAA", 1, [77, 77, other])
            self.read(b"AAA", 1, [77, 77, 77, other])
            self.read(b"", 1, [other])

    def test_another_quality(self):
        for other in (0, 1, 32, 127, 128, 255):
            self.read(b"AAA", 1, b"MMM", [other, 50, 50])
            self.read(b"AAA", 1, b"MMM", [50, other, 50])
            self.read(b"AAA", 1, b"MMM", [50, 50, other])
            self.read(b"AAA", 1, b"IMM", [other, 50, 50])
            self.read(b"AAA", 1, b"MMI", [50, 50, other])

    def test_a_read_that_is_not_used_up(self):
        self.read(b"AAA", 1, b"MM")
        self.read(b"AAA", 1, b"MI")
        self.read(b"AAA", 1, b"MMD")
        self.read(b"AAA", 1, b"")
        self.read(b"A", 1, b"D")

    def test_a_read_that_is_too_short(self):
        self.read(b"AAA", 0, b"MMMM")
        self.read(b"AAA", 0, b"MMMI")
        self.read(b"AAA", 0, b"MMDMM")
        self.read(b"", 0, b"M")
        self.read(b"", 0, b"I")

    def test_past_the_genome(self):
        self.read(b"AAA", 3, b"MMM")
        self.read(b"AAA", 4, b"MIM")
        self.read(b"AA", 3, b"MMD")
        self.read(b"AA", 4, b"DMM")
        self.read(b"A", 5, b"M")
        self.read(b"", 5, b"D")
        self.read(b"AA", 5, b"IDI")
        self.read(b"A" * 6, 0, b"MMMMMM")
        self.read(b"", 0, b"DDDDDD")

    def test_place_out_of_its_range(self):
        for place in (-1, -2, 6, 7, 65536, LEAST, GREATEST):
            self.read(b"A", place, b"M")
            self.read(b"A", place, b"I")
            self.read(b"", place, b"D")
            self.read(b"", place, b"")

    def test_n_and_len_out_of_their_ranges(self):
        for wrong in (-1, 1025, LEAST, GREATEST):
            self.refuses([5, wrong, 1, 0])
            self.refuses([5, wrong, 1, 1, 77])
        for wrong in (-1, 4097, LEAST, GREATEST):
            self.refuses([5, 0, 1, wrong])
            self.refuses([5, 1, 1, wrong, 2, 50])

    def test_only_the_last_letter_is_at_fault(self):
        read = mixed_codes(700)
        qualities = [60] * 700
        for wrong in (
            pile_step(read, 0, qualities, b"M" * 699 + b"X"), pile_step(read, 0, qualities, b"M" * 699),
            pile_step(read, 0, qualities, b"M" * 701), pile_step(read, 2, qualities, b"M" * 700),
            pile_step(read, 0, qualities[:699] + [127], b"M" * 700), pile_step(read, 1, qualities, b"M" * 700 + b"D"),
        ):
            steps = [wrong, said_step(0, 701), depth_step(0, 701)]
            self.steps([0] * 701, steps, [[-1], [0] + [78] * 701, [0, 0, 0]])


class Stopped(unittest.TestCase):
    """All stop at 65535. So many reads are more than steps may be handed over at once, so they are piled one by one."""

    def piled(self, reads, times, code, quality, letter):
        for time in range(times):
            taken = 0 if letter == b"D" else 1
            self.assertTrue(reads.fits([code] * taken, [33 + quality] * taken, list(letter), 0))
            reads.pile([code] * taken, [33 + quality] * taken, list(letter), 0)

    def test_counts(self):
        reads = Reads(1)
        self.piled(reads, 65534, 1, 0, b"M")
        self.assertEqual(reads.depth_at(0), 65534)
        self.piled(reads, 1, 1, 0, b"M")
        self.assertEqual(reads.depth_at(0), 65535)
        self.piled(reads, 2, 1, 0, b"M")
        self.assertEqual(reads.depth_at(0), 65535)
        self.piled(reads, 3, 2, 0, b"M")
        self.assertEqual(reads.depth_at(0), 65538)

    def test_those_that_go_over(self):
        reads = Reads(1)
        self.piled(reads, 65534, 0, 0, b"D")
        self.assertEqual(reads.depth_at(0), 65534)
        self.piled(reads, 3, 0, 0, b"D")
        self.assertEqual(reads.depth_at(0), 65535)
        self.piled(reads, 65534, 3, 1, b"M")
        self.assertEqual(bytes([reads.said_at(0)]), b"-")
        self.piled(reads, 1, 3, 1, b"M")
        self.assertEqual(bytes([reads.said_at(0)]), b"T")
        self.assertEqual(reads.depth_at(0), 131070)

    def test_weights(self):
        reads = Reads(1)
        self.piled(reads, 704, 2, 93, b"M")
        self.piled(reads, 1, 2, 62, b"M")
        self.piled(reads, 705, 3, 93, b"M")
        # One below where it stops, so the other is greater; then both are the same.
        self.assertEqual(bytes([reads.said_at(0)]), b"T")
        self.piled(reads, 1, 2, 1, b"M")
        self.assertEqual(bytes([reads.said_at(0)]), b"G")
        self.piled(reads, 5, 3, 93, b"M")
        self.assertEqual(bytes([reads.said_at(0)]), b"G")
        self.assertEqual(reads.depth_at(0), 704 + 1 + 705 + 1 + 5)


if __name__ == "__main__":
    unittest.main()
