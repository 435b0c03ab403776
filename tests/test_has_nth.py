"""Which combinations a bet has, by their numbers: has and nth against the combinations one by one."""

import itertools
import random
import time
import unittest

from tests.helper import (CARD, DAY, FIRST, POOLS, a_part, big_day, card_of, cost, faulty_bets, fits, has, judge, keys,
                          many, nth, numbers, parts, rows, written)

MOST = 4294967295
GOOD = "bet win for 1 on 1\n"


class OneByOneTest(unittest.TestCase):
    def compared(self, pool, how, sets):
        """Hold both calls against the pool's combinations gone through one by one."""
        name, kind, size, race, fields = pool
        fit = [fits(kind, how, row, sets) for row in rows(kind, fields)]
        told = [number for number, is_fit in enumerate(fit) if is_fit]
        card = card_of([pool])
        bet = written(name, 1, how, sets)
        if not told:
            self.assertEqual([has(0, bet, card), nth(0, bet, card)], [[-6], [-6]], bet)
            return
        self.assertEqual([nth(i, bet, card) for i in range(len(told))], [[0, number] for number in told], bet)
        self.assertEqual([has(number, bet, card) for number in range(len(fit))], [[0, int(one)] for one in fit], bet)
        self.ended(bet, card, len(told), len(fit))

    def ended(self, bet, card, count, size):
        """Both calls beyond the last combination of the bet and of the pool."""
        for number in [size, size + 1, 2 ** 31, MOST]:
            self.assertEqual(has(number, bet, card), [-1], bet)
        for i in [count, count + 1, 2 ** 31, MOST]:
            self.assertEqual(nth(i, bet, card), [-4], bet)

    def test_told_by_hand(self):
        for bet, told, size in [
                ("bet win for 1 on 1\n", [0], 6), ("bet win for 17 on 2,4,6\n", [1, 3, 5], 6),
                ("bet show for 10 on 2,5\n", [1, 3], 4), ("bet exacta for 10 on 1 / 4\n", [0], 2),
                ("bet exacta for 10 on 4 / 1\n", [1], 2), ("bet exacta for 30 box 1,4\n", [0, 1], 2),
                ("bet trio for 2 on 5 / 3 / 2\n", [23], 24), ("bet trio for 2 on 1 / 2,3 / 1,5\n", [1, 3], 24),
                ("bet trio for 2 key 1,2 with 5\n", [1, 4, 7, 10, 18, 20], 24),
                ("bet quinella for 1 on 2,3 / 2\n", [3], 6), ("bet quinella for 1 on 5 / 1\n", [2], 6),
                ("bet quinella for 1 on 1,2 / 2,3\n", [0, 1, 3], 6), ("bet quinella for 1 box 1,3,5\n", [1, 2, 5], 6),
                ("bet quinella for 1 key 3 with 1,2,5\n", [1, 3, 5], 6), ("bet three for 1 on 6 / 5 / 4\n", [19], 20),
                ("bet three for 1 key 1,6 with 2\n", [3], 20), ("bet double for 500 on 2,5 / 4\n", [3, 7], 8),
                ("bet double for 500 on 1,3 / 1,4\n", [0, 1, 4, 5], 8)]:
            with self.subTest(bet=bet):
                self.assertEqual([nth(i, bet) for i in range(len(told))], [[0, number] for number in told])
                self.assertEqual([has(number, bet) for number in range(size)],
                                 [[0, int(number in told)] for number in range(size)])
                self.ended(bet, DAY, len(told), size)

    def test_every_bet_on_pools_of_two_numbers(self):
        for pool in POOLS:
            name, kind, size, race, fields = pool
            if kind == "place" or size == 2:
                for sets in itertools.product(*map(parts, fields)):
                    self.compared(pool, "on", sets)

    def test_bets_on_at_random(self):
        chance = random.Random(11)
        for pool in POOLS:
            for step in range(10 if pool[0] not in ("o4", "l4") else 3):
                self.compared(pool, "on", [a_part(chance, field) for field in pool[4]])

    def test_every_box_and_key_of_four_interests(self):
        for pool in POOLS:
            name, kind, size, race, fields = pool
            if kind in ("order", "any") and fields[0] == FIRST:
                for some in parts(fields[0], size):
                    self.compared(pool, "box", [some])
                for sets in keys(fields[0], size):
                    self.compared(pool, "key", sets)

    def test_some_boxes_and_keys_of_six_interests(self):
        for pool in [POOLS[5], POOLS[8]]:
            name, kind, size, race, fields = pool
            self.compared(pool, "box", [[1, 3, 5, 7]])
            self.compared(pool, "box", [fields[0]])
            for bankers in [[6], [2, 7], [3, 5, 6]][:size - 1]:
                self.compared(pool, "key", [bankers, [number for number in fields[0] if number not in bankers]])

    def test_sets_that_are_alike(self):
        for pool in POOLS:
            name, kind, size, race, fields = pool
            if kind in ("order", "any"):
                for some in [fields[0][:size - 1], fields[0][:size], fields[0][1:]]:
                    self.compared(pool, "on", [some] * size)

    def test_sets_that_overlap(self):
        chance = random.Random(12)
        for pool in POOLS:
            name, kind, size, race, fields = pool
            if kind in ("order", "any"):
                for step in range(8 if size < 4 else 2):
                    shared = chance.choice(fields[0])
                    self.compared(pool, "on", [sorted({shared, chance.choice(fields[0])}) for place in range(size)])

    def test_sets_of_one_number_each(self):
        for pool in POOLS:
            name, kind, size, race, fields = pool
            if kind in ("order", "any"):
                card = card_of([pool])
                for number, row in enumerate(rows(kind, fields)):
                    # In any the combination is the same in whatever order it's told.
                    told = row if kind == "order" else row[::-1]
                    bet = written(name, 1, "on", [[one] for one in told])
                    self.assertEqual([nth(0, bet, card), nth(1, bet, card)], [[0, number], [-4]], bet)
                    self.assertEqual(has(number, bet, card), [0, 1], bet)
                    if number > 0:
                        self.assertEqual(has(number - 1, bet, card), [0, 0], bet)

    def test_a_pool_s_number_is_by_its_interests(self):
        # 8 of 24 run with another, so that the interests have gaps; of place k is all one.
        couples = "".join(f" couple {a} {a + 1}" for a in range(1, 17, 2))
        interests = [1, 3, 5, 7, 9, 11, 13, 15] + list(range(17, 25))
        for kind, size in [("place", 4), ("order", 4), ("order", 2), ("any", 3), ("legs", 3)]:
            card = (f"day d\nrace 2\n" + f"race 24{couples}\n" * 3 +
                    f"pool p {kind} {size} from 2 take 0 break 1 least 0 unit 1 none refund\n")
            everything = rows(kind, [interests] * (1 if kind == "place" else size))
            chance = random.Random(13)
            for number in [0, len(everything) - 1] + chance.sample(range(len(everything)), 10):
                bet = written("p", 1, "on", [[one] for one in everything[number]])
                self.assertEqual([nth(0, bet, card), has(number, bet, card)], [[0, number], [0, 1]], bet)
                self.assertEqual(nth(1, bet, card), [-4], bet)
            self.assertEqual(has(len(everything) - 1, bet, card)[0], 0)
            self.assertEqual(has(len(everything), bet, card), [-1])

    def test_legs_of_unlike_races(self):
        name, kind, size, race, fields = POOLS[11]
        bet = "bet l4 for 1 on 5 / 1 / 2,3 / 7\n"
        told = [i for i, row in enumerate(rows(kind, fields)) if row in [(5, 1, 2, 7), (5, 1, 3, 7)]]
        self.assertEqual([nth(0, bet, CARD), nth(1, bet, CARD)], [[0, number] for number in told])
        self.assertEqual(told, [3 * 36 + 1 * 6 + 5, 3 * 36 + 2 * 6 + 5])


class LargestTest(unittest.TestCase):
    def setUp(self):
        self.card = big_day()
        self.began = time.process_time()

    def soon(self, calls):
        """So many calls were made since the test began; going through a large pool takes far longer."""
        self.assertLess(time.process_time() - self.began, 0.5 * calls)

    def sampled(self, bet, told, everything):
        """Hold both calls against all the bet's combinations and all of the pool, at some of their numbers."""
        number_of = {row: number for number, row in enumerate(everything)}
        fit = set(told)
        chance = random.Random(14)
        self.began = time.process_time()
        some = {0, 1, len(told) // 2, len(told) - 1} & set(range(len(told)))
        for i in sorted(some | {chance.randrange(len(told)) for step in range(10)}):
            self.assertEqual(nth(i, bet, self.card), [0, number_of[told[i]]], bet)
        for number in [0, 1, len(everything) - 1] + [chance.randrange(len(everything)) for step in range(10)]:
            self.assertEqual(has(number, bet, self.card), [0, int(everything[number] in fit)], bet)
        for row in [told[0], told[-1], chance.choice(told)]:
            self.assertEqual(has(number_of[row], bet, self.card), [0, 1], bet)
        self.assertEqual([nth(len(told), bet, self.card), nth(MOST, bet, self.card)], [[-4], [-4]])
        self.assertEqual([has(len(everything), bet, self.card), has(MOST, bet, self.card)], [[-1], [-1]])
        self.soon(34)

    def test_order_4_and_any_3(self):
        full = list(range(1, 25))
        rest = [number for number in full if number not in (7, 24)]
        for name, kind, size in [("o4", "order", 4), ("a3", "any", 3), ("o3", "order", 3)]:
            everything = rows(kind, [full] * size)
            for how, sets in [("on", [full] * size), ("box", [full]), ("box", [full[1:]]), ("key", [[1], full[1:]]),
                              ("key", [[24], full[:-1]]), ("key", [[7, 24], rest]),
                              ("on", [full[place:20 + place] for place in range(size)]),
                              ("on", [full[::2]] * (size - 1) + [[24]]), ("on", [[24]] + [full] * (size - 1))]:
                told = [row for row in everything if fits(kind, how, row, sets)]
                self.sampled(written(name, 1, how, sets), told, everything)

    def test_key_with_three_bankers(self):
        everything = rows("order", [list(range(1, 25))] * 4)
        for bankers in [[1, 2, 3], [22, 23, 24], [1, 12, 24]]:
            others = [number for number in range(1, 25) if number not in bankers]
            told = [row for row in everything if fits("order", "key", row, [bankers, others])]
            self.sampled(written("o4", 1, "key", [bankers, others]), told, everything)

    def test_place(self):
        bet = f"bet p4 for 1000000 on {numbers(1, 24)}\n"
        self.assertEqual([nth(i, bet, self.card) for i in range(25)], [[0, i] for i in range(24)] + [[-4]])
        self.assertEqual([has(i, bet, self.card) for i in range(25)], [[0, 1]] * 24 + [[-1]])
        self.soon(50)

    def test_all_of_six_legs(self):
        size = 24 ** 6
        bet = "bet l6 for 11 on " + " / ".join([numbers(1, 24)] * 6) + "\n"
        self.assertEqual(many(bet, self.card), [0, size])
        self.assertEqual(cost(bet, self.card), [0, 11 * size])
        for number in [0, 1, 23, 24, 24 ** 5 - 1, 24 ** 5, 123456789, size - 2, size - 1]:
            self.assertEqual(nth(number, bet, self.card), [0, number])
            self.assertEqual(has(number, bet, self.card), [0, 1])
        for number in [size, size + 1, 2 ** 31, MOST]:
            self.assertEqual(nth(number, bet, self.card), [-4])
            self.assertEqual(has(number, bet, self.card), [-1])
        self.soon(28)

    def test_six_legs_with_unlike_sets(self):
        sets = [[2, 3, 5, 24], list(range(1, 25)), [7], list(range(1, 25, 2)), [1, 24], list(range(10, 25))]
        bet = written("l6", 1, "on", sets)
        count = 4 * 24 * 1 * 12 * 2 * 15
        self.assertEqual(many(bet, self.card), [0, count])
        chance = random.Random(15)
        for i in [0, 1, count - 2, count - 1] + [chance.randrange(count) for step in range(40)]:
            left, number, step = i, 0, 1
            for some in reversed(sets):
                left, at = divmod(left, len(some))
                number += (some[at] - 1) * step
                step *= 24
            self.assertEqual(nth(i, bet, self.card), [0, number])
            self.assertEqual(has(number, bet, self.card), [0, 1])
        self.assertEqual(nth(count, bet, self.card), [-4])
        for step in range(40):
            row = [chance.randrange(1, 25) for some in sets]
            for place in [place for place in range(6) if place not in (step % 6, 2)]:
                row[place] = chance.choice(sets[place])
            number = 0
            for one in row:
                number = number * 24 + one - 1
            is_one = all(one in some for one, some in zip(row, sets))
            self.assertEqual(has(number, bet, self.card), [0, int(is_one)])
        self.soon(130)


class RefusalTest(unittest.TestCase):
    def refused(self, card, bet, number):
        for call in [has, nth]:
            for first in [0, 1, 5, 6, 2 ** 31, MOST]:
                self.assertEqual(call(first, bet, card), [number], bet[:60])

    def test_each_alone(self):
        self.refused("x" * 65537, GOOD, -2)
        self.refused(DAY + "\n" * (65537 - len(DAY)), GOOD, -2)
        self.refused(DAY, GOOD + "x" * (4097 - len(GOOD)), -2)
        self.refused("", GOOD, -8)
        self.refused(DAY[:-1], GOOD, -8)
        self.refused("x" * 65536, GOOD, -8)

    def test_each_fault_alone(self):
        met = {}
        for kind, place, card, bet in faulty_bets():
            self.assertEqual(judge(bet, card), [-6, kind, place], bet)
            self.refused(card, bet, -6)
            met[kind] = True
        self.assertEqual(sorted(met), [1, 2, 3, 4, 5, 6, 7, 8])

    def test_in_their_order(self):
        self.refused("x" * 65537, "x" * 4097, -2)
        self.refused("x", "x" * 4097, -2)
        self.refused("x" * 65537, "", -2)
        self.refused("x", "", -8)
        self.refused("x", "x" * 4096, -8)
        self.refused(DAY, "x" * 4096, -6)

    def test_no_such_number_at_last(self):
        for number in [6, 7, 24, 2 ** 31, MOST]:
            self.assertEqual(has(number, GOOD), [-1])
        for number in [1, 2, 6, 24, 2 ** 31, MOST]:
            self.assertEqual(nth(number, GOOD), [-4])
        self.assertEqual([has(number, GOOD) for number in range(6)], [[0, 1]] + [[0, 0]] * 5)
        self.assertEqual(nth(0, GOOD), [0, 0])

    def test_the_bound_is_the_bet_s_own_pool_s(self):
        for bet, size in [("bet win for 1 on 1\n", 6), ("bet show for 5 on 1\n", 4),
                          ("bet exacta for 10 on 1 / 4\n", 2), ("bet trio for 2 on 1 / 2 / 3\n", 24),
                          ("bet four for 1 on 1 / 2 / 3 / 4\n", 255024),
                          ("bet quinella for 1 on 1 / 2\n", 6), ("bet three for 1 on 1 / 2 / 3\n", 20),
                          ("bet double for 100 on 1 / 1\n", 8), ("bet five for 1 on 1 / 1 / 1 / 1 / 1\n", 2304)]:
            self.assertEqual([has(0, bet), has(size - 1, bet), has(size, bet)], [[0, 1], [0, 0], [-1]], bet)
            self.assertEqual([nth(0, bet), nth(1, bet)], [[0, 0], [-4]], bet)


class SameTest(unittest.TestCase):
    def agree(self, bet, card, size):
        """The calls on a bet of a pool with so many combinations are to say the same of it."""
        count = many(bet, card)[1]
        listed = [nth(i, bet, card) for i in range(count)]
        self.assertEqual({tuple(map(type, answer)) for answer in listed}, {(int, int)})
        told = [answer[1] for answer in listed]
        self.assertEqual(listed, [[0, number] for number in sorted(set(told))])
        self.assertEqual(nth(count, bet, card), [-4])
        answers = [has(number, bet, card) for number in range(size)]
        self.assertEqual({tuple(map(type, answer)) for answer in answers}, {(int, int)})
        self.assertEqual([number for number in range(size) if answers[number] == [0, 1]], told)
        self.assertEqual(answers.count([0, 0]), size - count)
        self.assertEqual(has(size, bet, card), [-1])
        stake = int(bet.split(" ")[3])
        self.assertEqual(cost(bet, card), [0, stake * sum(answer[1] for answer in answers)])

    def test_small_pools(self):
        chance = random.Random(16)
        for pool in POOLS:
            name, kind, size, race, fields = pool
            everything = rows(kind, fields)
            bets = []
            while len(bets) < 3:
                bet = written(name, chance.randrange(1, 99), "on", [a_part(chance, field) for field in fields])
                if judge(bet, CARD) == [0]:
                    bets.append(bet)
            if kind in ("order", "any"):
                bets.append(written(name, 3, "box", [a_part(chance, fields[0], size)]))
                bets.append(written(name, 3, "key", chance.choice(keys(fields[0], size))))
            for bet in bets:
                self.agree(bet, card_of([pool]), len(everything))

    def test_a_box_and_sets_alike_are_the_same(self):
        for name, size in [("o3", 3), ("o4", 4), ("a3", 3)]:
            box = f"bet {name} for 1 box 2,3,5,7,11\n"
            alike = f"bet {name} for 1 on " + " / ".join(["2,3,5,7,11"] * size) + "\n"
            for i in range(many(box, big_day())[1] + 1):
                self.assertEqual(nth(i, box, big_day()), nth(i, alike, big_day()))

    def test_a_key_is_the_box_s_combinations_with_the_bankers(self):
        card = card_of([POOLS[5]])
        box, key = "bet o4 for 1 box 1,2,3,5,7\n", "bet o4 for 1 key 2,5 with 1,3,7\n"
        without = ["bet o4 for 1 box 1,3,5,7\n", "bet o4 for 1 box 1,2,3,7\n"]
        for number in range(360):
            lacks = max(has(number, bet, card)[1] for bet in without)
            self.assertEqual(has(number, key, card), [0, has(number, box, card)[1] * (1 - lacks)])


class PureTest(unittest.TestCase):
    def test_asked_again_in_another_order(self):
        asked = [(call, number, bet, card) for call in [has, nth] for number in [0, 3, 19, MOST]
                 for bet, card in [("bet trio for 2 key 1,2 with 3,5\n", DAY),
                                   ("bet three for 1 box 1,2,3,4,5,6\n", DAY), (GOOD, DAY), (GOOD, "x"),
                                   ("bet o4 for 1 key 1,24 with 2,3,4\n", big_day()),
                                   ("bet trio for 2 on 1 / 1 / 2\n", DAY), ("bet double for 100 on 2,3 / 1,4\n", DAY)]]
        first = [call(number, bet, card) for call, number, bet, card in asked]
        again = [call(number, bet, card) for call, number, bet, card in reversed(asked)]
        self.assertEqual(again[::-1], first)


if __name__ == "__main__":
    unittest.main()
