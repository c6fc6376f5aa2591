"""Points 7 to 10: genome, and what holds for all its steps."""

import unittest

from checking import (
    GenomeCase, codes_of, depth_step, find_step, lay_step, long_codes, longest_step, near_step, packed_bytes, pile_step,
    said_step,
)
from genomereads.bench import genome

BASES = codes_of(b"GATTACA")
READ = pile_step(codes_of(b"ATC"), 1, [50, 60, 70], b"MMDM")

# One of each step, with its part on a genome of BASES.
EACH = [
    (find_step(codes_of(b"A"), 2), [3, 1, 4]),
    (longest_step(codes_of(b"TTAG")), [3]),
    (near_step(codes_of(b"TC"), 1, 9), [4, 3, 4, 5, 6]),
    (lay_step(codes_of(b"AC"), codes_of(b"TAC"), (3, 1, 1, 1), 2), [2, 6, 0, 2, 1, 3, 77, 77]),
    (READ, [0]),
    (said_step(0, 7), [0] + list(b"NAT-CNN")),
    (depth_step(0, 7), [0, 0, 1]),
]

# One of each step that is refused, whatever the genome.
WRONG = [
    [1, 0, 5], [2, 1025, 0], [3, 2, 3, 5, 0], [4, 1, 1, 128, 1, 1, 1, 9, 0, 0], [4, 1, 1, 1, 1, 1, 1, 0, 0, 0],
    [5, 1, 0, 1, 0, 32, 77], [6, 1, 0], [7, 0, 0],
]


def refusal(step):
    return [-2] if step == WRONG[4] else [-1]


class Genomes(GenomeCase):
    def test_as_told(self):
        self.check(genome, [[228], 4, [[1, 1, 10, 0], [7, 0, 4]]], [1, 0, 3, 0, 0, 0])
        self.check(genome, [[228], 4, [[4, 4, 4, 2, 1, 1, 1, 100, 228, 228]]], [4, 8, 0, 4, 0, 4, 77, 77, 77, 77])

    def test_no_steps(self):
        self.check(genome, [[228], 4, []], [])
        self.check(genome, [[], 0, []], [])
        self.check(genome, [packed_bytes(long_codes(65536)), 65536, []], [])

    def test_one_step(self):
        self.check(genome, [packed_bytes(BASES), 7, [find_step(codes_of(b"A"))]], [3, 1, 4, 6])
        self.check(genome, [packed_bytes(BASES), 7, [[6, 2, 2]]], [0])
        self.check(genome, [packed_bytes(BASES), 7, [[6, 2, 1]]], [-1])
        for step, part in EACH[:5]:
            self.step(BASES, step, part)

    def test_first_part_without_its_length_and_later_ones_with_it(self):
        bases = packed_bytes(BASES)
        self.check(genome, [bases, 7, [[6, 2, 2], [6, 2, 2], [6, 2, 3]]], [0, 1, 0, 2, 0, 78])
        self.check(genome, [bases, 7, [[6, 2, 1], [6, 2, 1], [6, 2, 3]]], [-1, 1, -1, 2, 0, 78])
        self.check(genome, [bases, 7, [[1, 1, 0, 0], [1, 1, 9, 0], [2, 1, 0, 0]]], [3, 4, 3, 1, 4, 6, 1, 1])

    def test_each_step_in_order(self):
        self.steps(BASES, [step for step, part in EACH], [part for step, part in EACH])
        nothing_said = [[0] + [78] * 7, [0, 0, 0]]
        self.steps(BASES, [EACH[5][0], EACH[6][0]] + [step for step, part in EACH[:5]],
                   nothing_said + [part for step, part in EACH[:5]])

    def test_a_refused_step_changes_nothing(self):
        for wrong in WRONG:
            steps = []
            parts = []
            for step, part in EACH:
                steps += [wrong, step]
                parts += [refusal(wrong), part]
            self.steps(BASES, steps + [wrong], parts + [refusal(wrong)])

    def test_refused_ones_alone(self):
        for wrong in WRONG:
            self.step(BASES, wrong, refusal(wrong))
            self.step([], wrong, refusal(wrong))
        self.steps(BASES, WRONG, [refusal(wrong) for wrong in WRONG])

    def test_15_steps(self):
        steps = [READ] * 12 + [said_step(0, 7), depth_step(0, 7), depth_step(1, 5)]
        self.steps(BASES, steps, [[0]] * 12 + [[0] + list(b"NAT-CNN"), [0, 0, 12], [0, 12, 12]])
        self.steps(BASES, [find_step([0])] * 15, [[3, 1, 4, 6]] * 15)
        twice = EACH + EACH[:4]
        steps = [step for step, part in twice] + WRONG[:4]
        self.steps(BASES, steps, [part for step, part in twice] + [[-1]] * 4)

    def test_reads_leave_the_bases_as_they_are(self):
        other = pile_step(codes_of(b"CCCCCCC"), 0, [126] * 7, b"MMMMMMM")
        steps = [other, find_step(codes_of(b"C")), longest_step(codes_of(b"CCC")), near_step(codes_of(b"CC"), 0)]
        self.steps(BASES, steps, [[0], [1, 5], [1], [0]])

    def test_a_genome_of_0_bases(self):
        told = [
            (find_step([0]), [0]), (longest_step([0, 1]), [0]), (longest_step([0, 1], 2), [0]),
            (near_step([0], 1), [0]), (lay_step([0], [0], (1, 1, 1, 1)), [1, 1, 0, 1, 0, 1, 77]),
            (said_step(0, 0), [0]), (said_step(0, 1), [-1]), (depth_step(0, 0), [-1]), (depth_step(0, 1), [-1]),
            (pile_step([1], 0, [40], b"I"), [0]), (pile_step([], 0, [], b""), [0]), (said_step(0, 0), [0]),
            (pile_step([1], 0, [40], b"M"), [-1]), (pile_step([], 0, [], b"D"), [-1]),
            (pile_step([], 1, [], b""), [-1]),
        ]
        for step, part in told:
            self.step([], step, part)
        self.steps([], [step for step, part in told], [part for step, part in told])

    def test_one_genome_after_another(self):
        first = genome(packed_bytes(BASES), 7, [READ, said_step(0, 7), find_step([0])])
        self.assertEqual(genome([228], 4, [said_step(0, 4), depth_step(0, 4), find_step([0])]),
                         [0, 78, 78, 78, 78, 3, 0, 0, 0, 2, 1, 0])
        self.assertEqual(genome(packed_bytes(BASES), 7, [said_step(0, 7), depth_step(0, 7)]),
                         [0] + [78] * 7 + [3, 0, 0, 0])
        self.assertEqual(genome(packed_bytes(BASES), 7, [READ, said_step(0, 7), find_step([0])]), first)

    def test_an_equal_list_twice_among_the_steps(self):
        bases = packed_bytes(BASES)
        self.check(genome, [bases, 7, [READ, READ, [7, 1, 5]]], [0, 1, 0, 3, 0, 2, 2])

    def test_bits_behind_the_last_base(self):
        for last in range(0, 256, 4):
            self.check(genome, [[228, last + 1], 5, [[1, 1, 9, 1], [2, 3, 0, 1 + 4 * 1]]], [2, 1, 4, 1, 1])

    def test_a_number_that_is_not_as_told(self):
        for number in (0, 8, -1):
            self.step(BASES, [number, 0, 1], [-1])
            self.steps(BASES, [READ, [number, 0, 1], depth_step(1, 5)], [[0], [-1], [0, 1, 1]])
        for n in (-1, 65537):
            self.check(genome, [[], n, [said_step(0, 0)]], [-1])

    def test_most_bases(self):
        codes = [0] * 65535 + [2]
        steps = [find_step([2]), near_step([0, 2], 0), longest_step([0] * 1023 + [2]), depth_step(65535, 65536)]
        self.steps(codes, steps, [[1, 65535], [1, 65536], [1024], [0, 0, 0]])


if __name__ == "__main__":
    unittest.main()
