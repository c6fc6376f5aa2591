"""Point 4: shared."""

import unittest

from checking import CallCase
from genomereads.bench import shared

HIGH = [2 ** 63 - 1, 2 ** 63, 2 ** 63 + 1, 2 ** 64 - 2, 2 ** 64 - 1]


class Shared(CallCase):
    def finds(self, a, b, wanted):
        with self.subTest(a=len(a), b=len(b)):
            self.check(shared, [list(a), list(b)], [wanted])

    def test_none_in_one_or_in_both(self):
        self.finds([], [], 0)
        self.finds([], [0, 1], 0)
        self.finds([0, 1], [], 0)
        self.finds([1, 2], [3, 4], 0)

    def test_some_and_all(self):
        self.finds([1, 2, 3], [3, 1, 5], 2)
        self.finds([5, 1], [1, 9, 5], 2)
        self.finds([1, 9, 5], [5, 1], 2)
        self.finds([0], [0], 1)
        self.finds([7, 8, 9], [9, 8, 7], 3)

    def test_several_times(self):
        self.finds([4, 4, 4], [4], 3)
        self.finds([4], [4, 4, 4], 1)
        self.finds([4, 5, 4, 6], [4, 4, 6], 3)
        self.finds([4, 4, 5, 5], [5, 5, 5, 5], 2)

    def test_great_numbers(self):
        self.finds(HIGH, HIGH[::-1], 5)
        for number in HIGH:
            for other in HIGH:
                self.finds([number], [other], int(number == other))
        self.finds([2 ** 64 - 1, 0, 2 ** 63], [2 ** 63 - 1, 2 ** 32, 1], 0)

    def test_most_numbers(self):
        numbers = [2 ** 64 - 1 - 3 * place for place in range(4097)]
        self.finds(numbers[:4096], numbers[:4096], 4096)
        self.finds(numbers[:4096], [number - number % 2 for number in numbers[:4096]], 2048)
        self.finds([7] * 4096, numbers[:4095] + [7], 4096)
        self.finds(numbers, [], -1)
        self.finds([], numbers, -1)
        self.finds(numbers, numbers[:4096], -1)
        self.finds(numbers[:4096], numbers, -1)
        self.finds(numbers, numbers, -1)
        self.finds([1] * 4200, [1] * 4200, -1)


if __name__ == "__main__":
    unittest.main()
