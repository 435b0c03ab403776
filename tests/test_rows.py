"""The rows of a bet, against going through all combinations of the pool: how many, which, in which order."""

import itertools
import random
import unittest

from betwords.counts import choose, count_before, count_different, count_starts, picks_of
from betwords.rows import count_common, rows_box, rows_key, rows_on, seatings
from tests.helper import a_part, fits, keys, parts, rows

KINDS = [("order", 2), ("order", 3), ("order", 4), ("any", 2), ("any", 3)]
FULL = list(range(1, 25))


def made(kind, how, sets, size):
    """The rows of a bet in a pool of this size."""
    if how == "on":
        return rows_on(kind, sets)
    if how == "box":
        return rows_box(kind, size, sets[0])
    return rows_key(kind, size, sets[0], sets[1])


class CountTest(unittest.TestCase):
    def test_on(self):
        chance = random.Random(3)
        interests = [1, 2, 3, 5, 8, 23, 24]
        for kind, size in KINDS:
            for step in range(40):
                sets = [a_part(chance, interests) for place in range(size)]
                if step % 4 == 0:
                    sets = [numbers[:2] for numbers in sets]
                many = len([row for row in rows(kind, [interests] * size) if fits(kind, "on", row, sets)])
                self.assertEqual(rows_on(kind, sets).starting(()), many, (kind, sets))

    def test_on_in_place_and_legs(self):
        self.assertEqual(rows_on("place", [[2, 5, 7]]).starting(()), 3)
        self.assertEqual(rows_on("legs", [[2, 5, 7], [2, 5]]).starting(()), 6)
        self.assertEqual(rows_on("legs", [FULL] * 6).starting(()), 24 ** 6)

    def test_on_with_full_sets(self):
        self.assertEqual(rows_on("order", [FULL] * 4).starting(()), 24 * 23 * 22 * 21)
        self.assertEqual(rows_on("any", [FULL] * 3).starting(()), 24 * 23 * 22 // 6)

    def test_on_without_a_combination(self):
        for kind in ["order", "any"]:
            for sets in [[[1], [1]], [[1, 2], [1, 2], [1, 2]], [[1, 2], [1], [2]]]:
                self.assertEqual(rows_on(kind, sets).starting(()), 0)

    def test_each_pick_counts_once(self):
        for sets, many in [([[1, 2], [1, 2]], 1), ([[1, 2, 3], [1, 2, 3], [1, 2, 3]], 1), ([[1, 2], [2, 3]], 3)]:
            self.assertEqual(rows_on("any", sets).starting(()), many)

    def test_box(self):
        for kind, size in KINDS:
            for numbers in parts([1, 2, 4, 5, 9, 20], size):
                many = len(rows(kind, [numbers] * size))
                self.assertEqual(rows_box(kind, size, numbers).starting(()), many, (kind, numbers))

    def test_key(self):
        interests = [1, 2, 4, 5, 9, 20, 21]
        for kind, size in KINDS:
            whole = rows(kind, [interests] * size)
            for bankers in range(1, size):
                for others in range(size - bankers, len(interests) - bankers + 1):
                    first, second = interests[:bankers], interests[bankers:bankers + others]
                    many = len([row for row in whole if fits(kind, "key", row, [first, second])])
                    self.assertEqual(rows_key(kind, size, first, second).starting(()), many, (kind, first, second))

    def test_different(self):
        self.assertEqual(count_different([]), 1)
        self.assertEqual(count_different([[]]), 0)
        self.assertEqual(count_different([[1, 24], [24]]), 1)

    def test_starts(self):
        self.assertEqual(count_starts([]), {})
        self.assertEqual(count_starts([(1, 2), (1, 3), (2, 3)]),
                         {(): 3, (1,): 2, (2,): 1, (1, 2): 1, (1, 3): 1, (2, 3): 1})
        self.assertEqual(sorted(picks_of([[1, 2], [2, 3]])), [(1, 2), (1, 3), (2, 3)])

    def test_seatings(self):
        self.assertEqual(seatings(2, [5], [1, 7]), [[[5], [1, 7]], [[1, 7], [5]]])
        for size, bankers, many in [(3, [2], 3), (3, [2, 9], 6), (4, [2], 4), (4, [2, 9], 12), (4, [2, 8, 9], 24)]:
            grids = seatings(size, bankers, [1])
            self.assertEqual(len(grids), many)
            for one, other in itertools.combinations(grids, 2):
                self.assertNotEqual(one, other)
            for grid in grids:
                self.assertEqual(sorted(grid), sorted([[1]] * (size - len(bankers)) + [[some] for some in bankers]))


class OrderTest(unittest.TestCase):
    def compared(self, found, told, everything):
        """Hold rows against the same ones told in order, and all rows of their pool."""
        self.assertEqual([found.row_at(i) for i in range(len(told))], told)
        self.assertEqual(found.listed(), told)
        fit = set(told)
        for row in everything:
            self.assertEqual(found.starting(row), int(row in fit))

    def check(self, kind, how, sets, fields):
        everything = rows(kind, fields)
        told = [row for row in everything if fits(kind, how, row, sets)]
        self.compared(made(kind, how, sets, len(fields)), told, everything)

    def test_every_bet_on_small_pools(self):
        for kind, size in [("place", 1), ("order", 2), ("order", 3), ("any", 2), ("any", 3)]:
            fields = [[1, 3, 4, 7] if size < 3 else [2, 3, 24]] * size
            for sets in itertools.product(*map(parts, fields)):
                self.check(kind, "on", list(sets), fields)

    def test_every_box_and_key(self):
        for kind, size in KINDS:
            fields = [[1, 3, 4, 7] if size > 3 else [1, 3, 4, 7, 24]] * size
            for numbers in parts(fields[0], size):
                self.check(kind, "box", [numbers], fields)
            for sets in keys(fields[0], size):
                self.check(kind, "key", sets, fields)

    def test_some_keys_around_many_others(self):
        interests = [1, 3, 4, 7, 12, 24]
        for sets in [[[1], [3, 4, 7, 12]], [[7], [1, 3, 4, 12, 24]], [[3, 24], [1, 4, 12]], [[3, 4, 7], [1, 12, 24]]]:
            self.check("order", "key", sets, [interests] * 4)

    def test_bets_on_at_random(self):
        chance = random.Random(8)
        interests = [2, 3, 5, 11, 13, 24]
        pools = [(kind, [interests] * size) for kind, size in KINDS]
        pools += [("place", [interests]), ("legs", [[1, 2], interests]), ("legs", [[1, 24], [3, 5, 7], [1]]),
                  ("legs", [[1, 2, 9], [4, 5], [1, 2], [2, 3], [23, 24], [1, 3]])]
        for kind, fields in pools:
            for step in range(12):
                self.check(kind, "on", [a_part(chance, field) for field in fields], fields)

    def test_starts_of_rows(self):
        chance = random.Random(9)
        interests = [1, 2, 4, 6, 7]
        for kind, size in KINDS + [("legs", 3)]:
            everything = rows(kind, [interests] * size)
            for step in range(6):
                sets = [a_part(chance, interests) for place in range(size)]
                found = rows_on(kind, sets)
                told = [row for row in everything if fits(kind, "on", row, sets)]
                for length in range(size + 1):
                    for start in itertools.product(range(1, 9), repeat=min(length, 2)):
                        many = len([row for row in told if row[:len(start)] == start])
                        self.assertEqual(found.starting(start), many)

    def test_rows_of_whole_pools(self):
        for kind, fields in [("place", [FULL]), ("order", [FULL] * 2), ("any", [FULL] * 2), ("any", [FULL] * 3),
                             ("legs", [FULL] * 2), ("legs", [[1, 2], FULL, [5, 6, 7]])]:
            everything = rows(kind, fields)
            self.compared(rows_on(kind, fields), everything, everything)

    def test_listed_in_large_pools(self):
        for kind, how, sets, size in [
                ("order", "on", [[24], FULL, [1, 24], [5]], 4), ("order", "box", [[3, 8, 21, 24]], 4),
                ("order", "key", [[9, 24], [1, 5, 10]], 4), ("order", "key", [[2, 11, 20], [5, 24]], 4),
                ("any", "key", [[12], FULL[:11] + FULL[12:]], 3), ("any", "box", [FULL], 3)]:
            found = made(kind, how, sets, size)
            told = [row for row in rows(kind, [FULL] * size) if fits(kind, how, row, sets)]
            self.assertEqual(found.listed(), told)
        sets = [[24], [1, 24], [5], [7, 8, 9], [1], [2, 3]]
        self.assertEqual(rows_on("legs", sets).listed(), list(itertools.product(*sets)))


class BeforeTest(unittest.TestCase):
    def test_every_row_of_small_pools(self):
        gaps = [1, 3, 4, 7, 12, 24]
        for kind, fields in [
                ("place", [gaps]), ("place", [[2]]), ("order", [gaps] * 2), ("order", [gaps] * 3),
                ("order", [gaps] * 4), ("order", [gaps[:4]] * 4), ("order", [[1, 2]] * 2), ("any", [gaps] * 2),
                ("any", [gaps] * 3), ("any", [gaps[:3]] * 3), ("any", [[1, 2]] * 2), ("legs", [gaps, [1]]),
                ("legs", [[1], gaps]), ("legs", [[2, 3], gaps, [1, 24], [5], [6, 7]])]:
            for number, row in enumerate(rows(kind, fields)):
                self.assertEqual(count_before(kind, fields, row), number, (kind, fields, row))

    def test_whole_pools(self):
        for kind, fields in [("place", [FULL]), ("order", [FULL] * 3), ("any", [FULL] * 2), ("any", [FULL] * 3),
                             ("legs", [FULL] * 3), ("legs", [[1, 2], FULL, [5, 6, 7]])]:
            everything = rows(kind, fields)
            self.assertEqual([count_before(kind, fields, row) for row in everything], list(range(len(everything))))

    def test_the_largest_pools(self):
        everything = rows("order", [FULL] * 4)
        for number in list(range(0, len(everything), 997)) + [len(everything) - 1]:
            self.assertEqual(count_before("order", [FULL] * 4, everything[number]), number)
        self.assertEqual(count_before("legs", [FULL] * 6, (24,) * 6), 24 ** 6 - 1)
        self.assertEqual(count_before("legs", [FULL] * 6, (2, 1, 1, 1, 1, 3)), 24 ** 5 + 2)

    def test_choose(self):
        for many in range(8):
            for size in range(5):
                self.assertEqual(choose(many, size), len(list(itertools.combinations(range(many), size))))


class CommonTest(unittest.TestCase):
    def test_each_pair_of_ways(self):
        chance = random.Random(10)
        interests = [2, 3, 5, 11, 24]
        for kind, size in KINDS:
            bets = [("on", [a_part(chance, interests) for place in range(size)]) for step in range(8)]
            bets += [("box", [a_part(chance, interests, size)]) for step in range(4)]
            bets += [("key", sets) for sets in chance.sample(keys(interests, size), 10)]
            everything = rows(kind, [interests] * size)
            told = [{row for row in everything if fits(kind, how, row, sets)} for how, sets in bets]
            for one, other in itertools.product(range(len(bets)), repeat=2):
                many = count_common(made(kind, *bets[one], size), made(kind, *bets[other], size))
                self.assertEqual(many, len(told[one] & told[other]), (kind, bets[one], bets[other]))

    def test_place_and_legs(self):
        for kind, one, other, many in [
                ("place", [[1, 2, 5]], [[2, 3, 5]], 2), ("place", [[1]], [[2]], 0),
                ("legs", [[1, 2], [3]], [[2, 4], [3, 5]], 1), ("legs", [[1], [3]], [[3], [1]], 0),
                ("legs", [FULL] * 6, [FULL] * 5 + [[7]], 24 ** 5)]:
            self.assertEqual(count_common(rows_on(kind, one), rows_on(kind, other)), many)
            self.assertEqual(count_common(rows_on(kind, other), rows_on(kind, one)), many)


if __name__ == "__main__":
    unittest.main()
