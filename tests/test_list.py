"""All of a bet's combinations by their numbers: list_of against the combinations one by one."""

import itertools
import random
import time
import unittest

from tests.helper import (CARD, DAY, FIRST, POOLS, a_part, big_day, card_of, faulty_bets, judge, keys, list_of, many,
                          nth, numbers, parts, rows, told_of, written)

GOOD = "bet win for 1 on 1\n"
FULL = list(range(1, 25))
# Sets of which just so many rows can be made in pools of order 3 and order 4 with 24 runners.
ORDERS = [
    (4095, "o3", [FULL[12:], FULL[4:21], FULL[1:]]),
    (4096, "o3", [FULL[8:], FULL[7:], FULL[6:]]),
    (4097, "o3", [FULL[:15], FULL[:14] + [16, 17, 18], FULL[:19]]),
    (4096, "o4", [FULL[:8], FULL[:9], FULL[:10], FULL[:11]]),
    (4096, "o4", [FULL[9:17], FULL[21:], FULL[11:23], FULL[3:21]]),
    (4097, "o4", [[2, 5, 7, 10, 11, 12, 13, 15, 16, 20, 21, 23, 24], FULL[:11] + FULL[12:], [7, 18],
                  [3, 4, 5, 8, 9, 15, 18, 20, 23]]),
]


class OneByOneTest(unittest.TestCase):
    def compared(self, pool, how, sets):
        """Hold the call against the pool's combinations gone through one by one."""
        told = told_of(pool, how, sets)
        bet = written(pool[0], 1, how, sets)
        answer = [0] + told if told else [-6]
        self.assertEqual(list_of(bet, card_of([pool])), answer, bet)

    def test_told_by_hand(self):
        for bet, told in [
                ("bet win for 1 on 1\n", [0]), ("bet win for 17 on 2,4,6\n", [1, 3, 5]),
                ("bet show for 10 on 2,5\n", [1, 3]), ("bet exacta for 10 on 1 / 4\n", [0]),
                ("bet exacta for 10 on 4 / 1\n", [1]), ("bet exacta for 30 box 1,4\n", [0, 1]),
                ("bet exacta for 30 key 4 with 1\n", [0, 1]), ("bet trio for 2 on 5 / 3 / 2\n", [23]),
                ("bet trio for 2 on 1 / 2,3 / 1,5\n", [1, 3]),
                ("bet trio for 2 key 1,2 with 5\n", [1, 4, 7, 10, 18, 20]),
                ("bet trio for 1000000 box 1,2,3,5\n", list(range(24))),
                ("bet four for 3 on 24 / 23 / 22 / 21\n", [255023]),
                ("bet four for 3 on 1 / 3 / 2 / 4,5\n", [462, 463]), ("bet quinella for 1 on 2,3 / 2\n", [3]),
                ("bet quinella for 1 on 5 / 1\n", [2]), ("bet quinella for 1 on 1,2 / 2,3\n", [0, 1, 3]),
                ("bet quinella for 1 box 1,3,5\n", [1, 2, 5]), ("bet quinella for 1 key 3 with 1,2,5\n", [1, 3, 5]),
                ("bet three for 1 on 6 / 5 / 4\n", [19]), ("bet three for 1 key 1,6 with 2\n", [3]),
                ("bet three for 1 box 1,2,3,6\n", [0, 3, 6, 12]), ("bet double for 500 on 2,5 / 4\n", [3, 7]),
                ("bet double for 500 on 1,3 / 1,4\n", [0, 1, 4, 5]),
                ("bet five for 1 on 6 / 5 / 4 / 24 / 1,2\n", [2302, 2303])]:
            with self.subTest(bet=bet):
                self.assertEqual(list_of(bet), [0] + told)

    def test_every_bet_on_in_place_and_pools_of_two_numbers(self):
        for pool in POOLS:
            name, kind, size, race, fields = pool
            if kind == "place" or size == 2:
                for sets in itertools.product(*map(parts, fields)):
                    self.compared(pool, "on", sets)

    def test_bets_on_at_random(self):
        chance = random.Random(21)
        for pool in POOLS:
            for step in range(60):
                self.compared(pool, "on", [a_part(chance, field) for field in pool[4]])

    def test_all_of_a_pool(self):
        for pool in POOLS:
            name, kind, size, race, fields = pool
            self.compared(pool, "on", fields)
            self.assertEqual(list_of(written(name, 1, "on", fields), CARD), [0] + list(range(len(rows(kind, fields)))))

    def test_every_box_and_key(self):
        for pool in POOLS:
            name, kind, size, race, fields = pool
            if kind in ("order", "any"):
                for some in parts(fields[0], size):
                    self.compared(pool, "box", [some])
                for sets in keys(fields[0], size)[::1 if fields[0] == FIRST else 3]:
                    self.compared(pool, "key", sets)

    def test_sets_that_are_alike_or_overlap(self):
        chance = random.Random(22)
        for pool in POOLS:
            name, kind, size, race, fields = pool
            if kind in ("order", "any"):
                for some in parts(fields[0]):
                    self.compared(pool, "on", [some] * size)
                for step in range(30):
                    shared = chance.choice(fields[0])
                    self.compared(pool, "on", [sorted({shared, chance.choice(fields[0])}) for place in range(size)])

    def test_one_combination(self):
        for pool in POOLS:
            name, kind, size, race, fields = pool
            card = card_of([pool])
            for number, row in enumerate(rows(kind, fields)):
                self.assertEqual(list_of(written(name, 1, "on", [[one] for one in row]), card), [0, number])
                if kind == "any":
                    # A combination is the same in whatever order it's told, as a box and around bankers.
                    self.assertEqual(list_of(written(name, 1, "on", [[one] for one in row[::-1]]), card), [0, number])
                    self.assertEqual(list_of(written(name, 1, "box", [row]), card), [0, number])
                    self.assertEqual(list_of(written(name, 1, "key", [row[1:], row[:1]]), card), [0, number])

    def test_numbers_are_by_the_interests(self):
        # 8 of 24 run with another, so that the interests have gaps; of place k is all one.
        couples = "".join(f" couple {a} {a + 1}" for a in range(1, 17, 2))
        interests = [1, 3, 5, 7, 9, 11, 13, 15] + list(range(17, 25))
        chance = random.Random(23)
        for kind, size in [("place", 4), ("order", 3), ("order", 2), ("any", 3), ("any", 2), ("legs", 2), ("legs", 3)]:
            card = ("day d\nrace 2\n" + f"race 24{couples}\n" * 3 +
                    f"pool p {kind} {size} from 2 take 0 break 1 least 0 unit 1 none refund\n")
            pool = ("p", kind, size, 2, [interests] * (1 if kind == "place" else size))
            bets = [("on", [a_part(chance, interests) for field in pool[4]]) for step in range(3)]
            if kind in ("order", "any"):
                bets.append(("box", [[3, 11, 15, 17, 24]]))
                bets.append(("key", [[9], [1, 7, 15, 18, 24]]))
            for how, sets in bets:
                told = told_of(pool, how, sets)
                answer = [0] + told if len(told) <= 4096 else [-9]
                self.assertEqual(list_of(written("p", 1, how, sets), card), answer, (kind, how, sets))

    def test_answers_are_plain_numbers(self):
        for bet in ["bet win for 1 on 2,4\n", "bet trio for 2 key 1,2 with 5\n", "bet three for 1 box 1,2,3,6\n",
                    "bet double for 500 on 2,5 / 4\n", "bet lose for 1 on 1\n",
                    "bet four for 1 box 1,2,3,4,5,6,7,8,9,10\n"]:
            self.assertEqual([type(list_of(bet))] + [type(number) for number in list_of(bet)],
                             [list] + [int] * len(list_of(bet)))


class BoundTest(unittest.TestCase):
    def setUp(self):
        self.card = big_day()
        self.began = time.process_time()

    def soon(self, calls):
        """So many calls were made since the test began; going through a large pool takes far longer."""
        self.assertLess(time.process_time() - self.began, 0.5 * calls)

    def test_legs(self):
        # 4,104 is the next number above 4,096 that is a product of numbers to 24, six at most.
        products = {1}
        for leg in range(6):
            products = {one * more for one in products for more in range(1, 25)}
        self.assertEqual(min(product for product in products if product > 4096), 4104)
        for sizes in [(4, 4, 4, 4, 4, 4), (16, 16, 16, 1, 1, 1), (1, 2, 8, 16, 1, 16), (1, 1, 1, 16, 16, 16)]:
            sets = [FULL[24 - size:] for size in sizes]
            bet = written("l6", 1, "on", sets)
            told = [0]
            for some in sets:
                told = [number * 24 + one - 1 for number in told for one in some]
            self.assertEqual([len(told), many(bet, self.card)], [4096, [0, 4096]])
            self.assertEqual(list_of(bet, self.card), [0] + told)
        for sizes in [(24, 19, 9, 1, 1, 1), (1, 9, 1, 24, 1, 19), (3, 8, 19, 1, 3, 3)]:
            bet = written("l6", 1, "on", [FULL[:size] for size in sizes])
            self.assertEqual([many(bet, self.card), list_of(bet, self.card)], [[0, 4104], [-9]])

    def test_legs_of_each_size(self):
        for size, most, above in [(3, (16, 16, 16), (24, 19, 9)), (4, (8, 8, 8, 8), (24, 19, 3, 3)),
                                  (5, (8, 8, 4, 4, 4), (4, 6, 19, 3, 3))]:
            card = ("day d\n" + "race 24\n" * 5 +
                    f"pool p legs {size} from {6 - size} take 0 break 1 least 0 unit 1 none carry\n")
            answer = list_of(written("p", 1, "on", [FULL[:some] for some in most]), card)
            self.assertEqual([answer[0], len(answer), len(set(answer[1:]))], [0, 4097, 4096])
            self.assertEqual(answer[1:], sorted(answer[1:]))
            self.assertEqual(list_of(written("p", 1, "on", [FULL[:some] for some in above]), card), [-9])

    def test_two_legs_are_never_too_many(self):
        card = "day d\nrace 24\nrace 24\npool p legs 2 from 1 take 0 break 1 least 0 unit 1 none carry\n"
        self.assertEqual(list_of(written("p", 1, "on", [FULL, FULL]), card), [0] + list(range(576)))

    def test_order(self):
        for count, name, sets in ORDERS:
            bet = written(name, 1, "on", sets)
            number_of = {row: number for number, row in enumerate(rows("order", [FULL] * len(sets)))}
            told = sorted(number_of[row] for row in itertools.product(*sets) if len(set(row)) == len(row))
            self.assertEqual([len(told), many(bet, self.card)], [count, [0, count]])
            self.assertEqual(list_of(bet, self.card), [-9] if count > 4096 else [0] + told)

    def test_boxes_and_keys(self):
        # Of each way in pools of order the greatest that are listed, and the least that aren't.
        for bet, count in [(f"bet o3 for 1 box {numbers(8, 24)}\n", 4080),
                           (f"bet o3 for 1 box {numbers(7, 24)}\n", 4896),
                           (f"bet o4 for 1 box {numbers(16, 24)}\n", 3024),
                           (f"bet o4 for 1 box {numbers(15, 24)}\n", 5040),
                           (f"bet o4 for 1 key 5 with {numbers(6, 16)}\n", 3960),
                           (f"bet o4 for 1 key 5 with {numbers(6, 17)}\n", 5280),
                           (f"bet o4 for 1 key 5,20 with {numbers(1, 4)},{numbers(6, 19)}\n", 3672),
                           (f"bet o4 for 1 key 5,20 with {numbers(1, 4)},{numbers(6, 19)},21\n", 4104),
                           (f"bet o4 for 1 key 1,2,3 with {numbers(4, 24)}\n", 504),
                           (f"bet o3 for 1 key 24 with {numbers(1, 23)}\n", 1518)]:
            self.assertEqual(many(bet, self.card), [0, count])
            answer = list_of(bet, self.card)
            if count > 4096:
                self.assertEqual(answer, [-9])
            else:
                self.assertEqual([answer[0], len(answer)], [0, count + 1])
                self.assertEqual(answer[1:], sorted(set(answer[1:])))
                for i in [0, 1, count // 2, count - 1]:
                    self.assertEqual(nth(i, bet, self.card), [0, answer[1 + i]])
        self.soon(80)

    def test_keys_in_the_largest_pool_one_by_one(self):
        number_of = {row: number for number, row in enumerate(rows("order", [FULL] * 4))}
        for bankers, others in [([5], FULL[5:16]), ([5, 20], FULL[:4] + FULL[5:19]),
                                ([1, 12, 24], FULL[1:11] + FULL[12:23])]:
            rows_told = [row for some in itertools.combinations(others, 4 - len(bankers))
                         for row in itertools.permutations(list(some) + bankers)]
            told = sorted(number_of[row] for row in rows_told)
            self.assertEqual(list_of(written("o4", 1, "key", [bankers, others]), self.card), [0] + told)

    def test_any_is_never_too_many(self):
        for bet in [f"bet a3 for 1 box {numbers(1, 24)}\n", written("a3", 1, "on", [FULL] * 3)]:
            self.assertEqual(list_of(bet, self.card), [0] + list(range(2024)))
        self.assertEqual(list_of(f"bet a3 for 1 key 1 with {numbers(2, 24)}\n", self.card), [0] + list(range(253)))
        self.soon(3)

    def test_place(self):
        self.assertEqual(list_of(f"bet p4 for 1 on {numbers(1, 24)}\n", self.card), [0] + list(range(24)))

    def test_the_largest_are_refused_soon(self):
        everything = numbers(1, 24)
        for words in ["l6 for 11 on " + " / ".join([everything] * 6), "o4 for 8420 box " + everything,
                      "o4 for 1 on " + " / ".join([everything] * 4), "o4 for 1 key 24 with " + numbers(1, 23),
                      "o4 for 1 key 1,24 with " + numbers(2, 23), "o3 for 1 box " + everything]:
            self.assertEqual(list_of(f"bet {words}\n", self.card), [-9], words)
        self.soon(6)

    def test_the_largest_lists_are_answered_soon(self):
        lists = [written(name, 1, "on", sets) for count, name, sets in ORDERS if count <= 4096]
        lists.append(written("l6", 1, "on", [FULL[20:]] * 6))
        lists.append(written("o4", 1, "on", [FULL[:15], FULL[:15], FULL[:18], [24]]))
        for bet in lists:
            self.assertEqual(list_of(bet, self.card)[0], 0)
        self.soon(len(lists))


class RefusalTest(unittest.TestCase):
    def refused(self, card, bet, number):
        self.assertEqual(list_of(bet, card), [number], bet[:60])

    def test_each_alone(self):
        self.refused("x" * 65537, GOOD, -2)
        self.refused(DAY + "\n" * (65537 - len(DAY)), GOOD, -2)
        self.refused(DAY, GOOD + "x" * (4097 - len(GOOD)), -2)
        self.refused("", GOOD, -8)
        self.refused(DAY[:-1], GOOD, -8)
        self.refused("x" * 65536, GOOD, -8)
        self.refused(DAY, "bet four for 1 box 1,2,3,4,5,6,7,8,9,10\n", -9)

    def test_each_fault_alone(self):
        met = {}
        for kind, place, card, bet in faulty_bets():
            self.assertEqual(judge(bet, card), [-6, kind, place], bet)
            self.refused(card, bet, -6)
            met[kind] = True
        self.assertEqual(sorted(met), [1, 2, 3, 4, 5, 6, 7, 8])

    def test_in_their_order(self):
        self.refused("x" * 65537, "x" * 4097, -2)
        self.refused("x", "x" * 4097, -2)
        self.refused("x" * 65537, "", -2)
        self.refused("x", "", -8)
        self.refused("x", "x" * 4096, -8)
        self.refused(DAY, "x" * 4096, -6)

    def test_too_many_at_last(self):
        bet = "bet four for 1 box 1,2,3,4,5,6,7,8,9,10\n"
        self.refused(DAY, bet, -9)
        self.refused(DAY + "\n" * (65537 - len(DAY)), bet, -2)
        self.refused(DAY, bet + "x" * (4097 - len(bet)), -2)
        self.refused(DAY + "\n", bet, -8)
        self.refused(DAY, bet + "\n", -6)
        self.refused(DAY, bet[:-1], -6)
        self.refused(big_day(), f"bet o4 for 8421 box {numbers(1, 24)}\n", -6)
        self.refused(big_day(), f"bet o4 for 8420 box {numbers(1, 24)}\n", -9)
        self.refused(big_day(), "bet l6 for 12 on " + " / ".join([numbers(1, 24)] * 6) + "\n", -6)


if __name__ == "__main__":
    unittest.main()
