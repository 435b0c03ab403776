"""How many combinations a bet has, against going through all combinations of the pool."""

import random
import unittest

from betwords.counts import count_box, count_key, count_on
from tests.helper import fits, rows


def some(chance, interests, least=1):
    return sorted(chance.sample(interests, chance.randrange(least, len(interests) + 1)))


KINDS = [("order", 2), ("order", 3), ("order", 4), ("any", 2), ("any", 3)]


class CountTest(unittest.TestCase):
    def test_on(self):
        chance = random.Random(3)
        interests = [1, 2, 3, 5, 8, 23, 24]
        for kind, size in KINDS:
            for step in range(40):
                sets = [some(chance, interests) for place in range(size)]
                if step % 4 == 0:
                    sets = [numbers[:2] for numbers in sets]
                many = len([row for row in rows(kind, [interests] * size) if fits(kind, "on", row, sets)])
                self.assertEqual(count_on(kind, sets), many, (kind, sets))

    def test_on_in_place_and_legs(self):
        self.assertEqual(count_on("place", [[2, 5, 7]]), 3)
        self.assertEqual(count_on("legs", [[2, 5, 7], [2, 5]]), 6)
        self.assertEqual(count_on("legs", [list(range(1, 25))] * 6), 24 ** 6)

    def test_on_with_full_sets(self):
        full = list(range(1, 25))
        self.assertEqual(count_on("order", [full] * 4), 24 * 23 * 22 * 21)
        self.assertEqual(count_on("any", [full] * 3), 24 * 23 * 22 // 6)

    def test_on_without_a_combination(self):
        for kind in ["order", "any"]:
            self.assertEqual(count_on(kind, [[1], [1]]), 0)
            self.assertEqual(count_on(kind, [[1, 2], [1, 2], [1, 2]]), 0)
            self.assertEqual(count_on(kind, [[1, 2], [1], [2]]), 0)

    def test_each_pick_counts_once(self):
        self.assertEqual(count_on("any", [[1, 2], [1, 2]]), 1)
        self.assertEqual(count_on("any", [[1, 2, 3], [1, 2, 3], [1, 2, 3]]), 1)
        self.assertEqual(count_on("any", [[1, 2], [2, 3]]), 3)

    def test_box(self):
        chance = random.Random(4)
        interests = [1, 2, 4, 5, 9, 20]
        for kind, size in KINDS:
            for step in range(8):
                numbers = some(chance, interests, size)
                many = len(rows(kind, [numbers] * size))
                self.assertEqual(count_box(kind, size, numbers), many, (kind, numbers))

    def test_key(self):
        interests = [1, 2, 4, 5, 9, 20, 21]
        for kind, size in KINDS:
            for bankers in range(1, size):
                for others in range(size - bankers, len(interests) - bankers + 1):
                    first, second = interests[:bankers], interests[bankers:bankers + others]
                    many = len([row for row in rows(kind, [interests] * size)
                                if fits(kind, "key", row, [first, second])])
                    self.assertEqual(count_key(kind, size, first, second), many, (kind, first, second))


if __name__ == "__main__":
    unittest.main()
