"""The interface: names and parameters as they stand; nothing printed, read or imported."""

import inspect
import os
import subprocess
import sys
import unittest

from genomereads import bench

TOP = os.path.dirname(os.path.dirname(os.path.abspath(__file__)))

# Python tells its audit hooks of every file, import, process and socket; a call of the program causes none.
QUIET = """
import sys
known = set(sys.modules)
import genomereads.bench as bench
foreign = [name for name in set(sys.modules) - known if name.split(".")[0] != "genomereads"]
events = []
watching = [True]
sys.addaudithook(lambda event, arguments: events.append(event) if watching[0] else None)
bench.pack([65, 99, 71])
bench.pack([78])
bench.unpack([228], 3)
bench.unpack([], -1)
bench.turn([228], 3)
bench.turn([], -1)
bench.count([228], 4, 1, 3)
bench.count([228], 4, 3, 1)
bench.same([228], 0, [228], 1, 3)
bench.words([228], 4, 2)
bench.words([228], 4, 0)
bench.minimizers([228], 4, 2, 2, 1)
bench.minimizers([228], 4, 2, 2, -1)
bench.shared([1, 2], [2])
bench.shared([1] * 4097, [])
bench.edits([228], 4, [27], 3)
bench.edits([], -1, [27], 3)
bench.trim([40, 50], 9)
bench.trim([40, 32], 9)
bench.genome([228], 4, [[1, 1, 9, 0], [2, 1, 0, 0], [3, 1, 0, 9, 0], [4, 1, 1, 2, 1, 1, 1, 9, 0, 0]])
bench.genome([228], 4, [[5, 1, 0, 1, 0, 50, 77], [6, 0, 4], [7, 0, 4]])
bench.genome([228], 4, [[1, 0, 9], [2, 0, 0], [3, 0, 0, 9], [4, 0, 0, 2, 1, 1, 1, -1]])
bench.genome([228], 4, [[5, 0, 5, 0], [6, 1, 0], [7, 0, 0]])
watching[0] = False
if foreign or events:
    sys.exit(repr((foreign, events)))
"""


class Interface(unittest.TestCase):
    def test_parameters(self):
        for call, wanted in (
            (bench.pack, ["letters"]),
            (bench.unpack, ["bases", "n"]),
            (bench.turn, ["bases", "n"]),
            (bench.count, ["bases", "n", "begin", "end"]),
            (bench.same, ["a", "i", "b", "j", "n"]),
            (bench.words, ["bases", "n", "k"]),
            (bench.minimizers, ["bases", "n", "k", "w", "most"]),
            (bench.shared, ["a", "b"]),
            (bench.edits, ["a", "n", "b", "m"]),
            (bench.trim, ["qualities", "least"]),
            (bench.genome, ["bases", "n", "steps"]),
        ):
            with self.subTest(call=call):
                self.assertEqual(list(inspect.signature(call).parameters), wanted)

    def test_by_name(self):
        self.assertEqual(bench.pack(letters=[84]), [0, 1, 3])
        self.assertEqual(bench.unpack(bases=[3], n=1), [0, 1, 84])
        self.assertEqual(bench.turn(bases=[3], n=1), [0, 1, 0])
        self.assertEqual(bench.count(bases=[228], n=4, begin=1, end=3), [0, 4, 0, 1, 1, 0])
        self.assertEqual(bench.same(a=[228], i=0, b=[228], j=0, n=4), [4])
        self.assertEqual(bench.words(bases=[228], n=4, k=2), [3, 3, 1, 6, 1])
        self.assertEqual(bench.minimizers(bases=[228], n=4, k=2, w=2, most=1), [2, 1, 0])
        self.assertEqual(bench.shared(a=[1, 1, 2], b=[1]), [2])
        self.assertEqual(bench.edits(a=[228], n=4, b=[], m=0), [4])
        self.assertEqual(bench.trim(qualities=[33, 50], least=9), [0, 2, 1, 2])
        self.assertEqual(bench.genome(bases=[228], n=4, steps=[[1, 1, 10, 0], [7, 0, 4]]), [1, 0, 3, 0, 0, 0])

    def test_nothing_printed_read_or_imported(self):
        done = subprocess.run(
            [sys.executable, "-B", "-c", QUIET], cwd=TOP, stdin=subprocess.DEVNULL, capture_output=True, text=True
        )
        self.assertEqual((done.returncode, done.stdout, done.stderr), (0, "", ""))


if __name__ == "__main__":
    unittest.main()
