"""How many combinations two bets have in common: both against the combinations one by one."""

import itertools
import random
import time
import unittest

from betwords import desk
from tests.helper import (CARD, DAY, POOLS, a_part, big_day, both, card_of, codes, faulty_bets, judge, keys, many,
                          numbers, parts, rows, told_of, written)

GOOD = "bet win for 1 on 1\n"
FULL = list(range(1, 25))
PAIRS = [("box", "box"), ("box", "key"), ("box", "on"), ("key", "key"), ("key", "on"), ("on", "on")]


def some_bets(chance, pool):
    """Bets of each way that the pool has: how, sets."""
    name, kind, size, race, fields = pool
    bets = [("on", [a_part(chance, field) for field in fields]) for step in range(14)]
    bets += [("on", [a_part(chance, field)[:2] for field in fields]) for step in range(10)]
    bets.append(("on", fields))
    if kind in ("order", "any"):
        bets += [("box", [some]) for some in parts(fields[0], size)[-8:] + parts(fields[0], size)[:2]]
        bets += [("key", sets) for sets in chance.sample(keys(fields[0], size), min(16, len(keys(fields[0], size))))]
    return bets


def extent(first, second):
    """Whether two sets have none in common, some, or all that one of them has."""
    shared = first & second
    if not shared:
        return "none"
    return "all" if shared in (first, second) else "some"


class OneByOneTest(unittest.TestCase):
    def test_told_by_hand(self):
        for bet, other, count in [
                ("bet win for 1 on 1\n", "bet win for 1 on 1\n", 1),
                ("bet win for 1 on 1\n", "bet win for 1 on 2\n", 0),
                ("bet win for 1 on 1,2,5\n", "bet win for 9 on 2,3,4,5\n", 2),
                ("bet show for 10 on 1,2,3,5\n", "bet show for 5 on 2,5\n", 2),
                ("bet exacta for 10 on 1 / 4\n", "bet exacta for 10 on 4 / 1\n", 0),
                ("bet exacta for 10 box 1,4\n", "bet exacta for 20 key 4 with 1\n", 2),
                ("bet trio for 2 on 1 / 2,3 / 1,5\n", "bet trio for 2 box 1,2,5\n", 1),
                ("bet trio for 2 key 1 with 2,3,5\n", "bet trio for 2 key 2 with 1,3,5\n", 12),
                ("bet trio for 2 key 1,2 with 3,5\n", "bet trio for 4 key 1,3 with 2,5\n", 6),
                ("bet trio for 2 box 1,2,3\n", "bet trio for 2 box 2,3,5\n", 0),
                ("bet four for 1 box 1,2,3,4,5\n", "bet four for 1 box 2,3,4,5,6\n", 24),
                ("bet quinella for 1 on 1 / 2\n", "bet quinella for 1 on 2 / 1\n", 1),
                ("bet quinella for 1 on 1,2 / 2,3\n", "bet quinella for 1 box 2,3,5\n", 1),
                ("bet quinella for 1 key 1 with 2,3\n", "bet quinella for 1 key 3 with 1,5\n", 1),
                ("bet three for 1 box 1,2,3,4\n", "bet three for 1 box 2,3,4,5\n", 1),
                ("bet three for 1 key 1 with 2,3,4\n", "bet three for 1 on 2 / 1 / 3,4\n", 2),
                ("bet double for 500 on 2,5 / 1,4\n", "bet double for 100 on 1,5 / 4\n", 1),
                ("bet double for 500 on 2 / 1\n", "bet double for 100 on 1 / 1\n", 0),
                ("bet five for 1 on 1,2 / 5 / 1,4 / 7,24 / 1,2\n", "bet five for 2 on 2,3 / 3,5 / 1,4 / 24 / 2\n", 2)]:
            with self.subTest(bet=bet, other=other):
                self.assertEqual(both(bet, other), [0, count])
                self.assertEqual(both(other, bet), [0, count])

    def test_each_pair_of_ways(self):
        chance = random.Random(31)
        met = {}
        for pool in POOLS:
            card = card_of([pool])
            bets = []
            for how, sets in some_bets(chance, pool):
                told = set(told_of(pool, how, sets))
                if told:
                    bets.append((how, told, written(pool[0], chance.randrange(1, 99), how, sets)))
            for (how, told, bet), (other_how, other_told, other) in itertools.combinations_with_replacement(bets, 2):
                answer = [0, len(told & other_told)]
                self.assertEqual(both(bet, other, card), answer, (bet, other))
                self.assertEqual(both(other, bet, card), answer, (other, bet))
                met[pool[1], tuple(sorted([how, other_how])), extent(told, other_told)] = True
        awaited = [(kind, pair) for kind in ["order", "any"] for pair in PAIRS]
        awaited += [("place", ("on", "on")), ("legs", ("on", "on"))]
        self.assertEqual(sorted(met), sorted((kind, pair, how_far) for kind, pair in awaited
                                             for how_far in ["none", "some", "all"]))

    def test_every_pair_of_boxes_and_keys(self):
        for pool in [POOLS[3], POOLS[4], POOLS[6], POOLS[7]]:
            name, kind, size, race, fields = pool
            card = card_of([pool])
            bets = [("box", [some]) for some in parts(fields[0], size)]
            bets += [("key", sets) for sets in keys(fields[0], size)]
            told = [set(told_of(pool, how, sets)) for how, sets in bets]
            texts = [written(name, 1, how, sets) for how, sets in bets]
            for one, other in itertools.product(range(len(bets)), repeat=2):
                self.assertEqual(both(texts[one], texts[other], card), [0, len(told[one] & told[other])],
                                 (texts[one], texts[other]))

    def test_every_pair_of_bets_on_two_legs_and_in_place(self):
        for pool in [POOLS[0], POOLS[9]]:
            card = card_of([pool])
            bets = [("on", sets) for sets in itertools.product(*map(parts, pool[4]))]
            told = [set(told_of(pool, how, sets)) for how, sets in bets]
            texts = [written(pool[0], 1, how, sets) for how, sets in bets]
            for one, other in itertools.product(range(len(bets)), repeat=2):
                self.assertEqual(both(texts[one], texts[other], card), [0, len(told[one] & told[other])])

    def test_the_same_bet_twice(self):
        chance = random.Random(32)
        for pool in POOLS:
            for how, sets in some_bets(chance, pool):
                told = told_of(pool, how, sets)
                bet = written(pool[0], 1, how, sets)
                self.assertEqual(both(bet, bet, CARD), [0, len(told)] if told else [-6], bet)

    def test_written_otherwise(self):
        for bet, other, count in [
                ("o3 for 1 box 1,2,5", "o3 for 2 on 1,2,5 / 1,2,5 / 1,2,5", 6),
                ("o3 for 1 box 1,2,5", "o3 for 2 key 2 with 1,5", 6),
                ("o3 for 1 key 1,5 with 2", "o3 for 1 key 2 with 1,5", 6),
                ("o2 for 1 key 5 with 3", "o2 for 1 box 3,5", 2),
                ("o2 for 1 on 1,2 / 1,2", "o2 for 1 key 1 with 2", 2), ("o2 for 1 on 1,2 / 1", "o2 for 1 on 2 / 1", 1),
                ("o3 for 1 on 1 / 1,2 / 1,2,3", "o3 for 1 on 1 / 2 / 3", 1),
                ("a2 for 1 on 1,2 / 3", "a2 for 1 on 3 / 1,2", 2),
                ("a2 for 1 on 3 / 1,2,5", "a2 for 1 key 3 with 1,2,5", 3),
                ("a3 for 1 on 1,2 / 1,2 / 3,5", "a3 for 1 key 1,2 with 3,5", 2),
                ("a3 for 1 box 1,2,5", "a3 for 1 on 5 / 1 / 2", 1),
                ("a3 for 1 box 1,2,5", "a3 for 1 key 5 with 1,2", 1),
                ("a3 for 1 box 1,2,3,5", "a3 for 1 on 1,2,3,5 / 1,2,3,5 / 1,2,3,5", 4)]:
            bet, other = f"bet {bet}\n", f"bet {other}\n"
            self.assertEqual([many(bet, CARD), many(other, CARD)], [[0, count], [0, count]], (bet, other))
            self.assertEqual([both(bet, other, CARD), both(other, bet, CARD)], [[0, count], [0, count]], (bet, other))

    def test_stakes_are_all_one(self):
        for stakes in itertools.product([2, 4, 1000, 1000000], repeat=2):
            first, second = [f"bet trio for {stake} box 1,2,3,5\n" for stake in stakes]
            self.assertEqual(both(first, second), [0, 24])

    def test_answers_are_plain_numbers(self):
        for bet, other in [(GOOD, GOOD), (GOOD, "bet win for 1 on 2\n"), (GOOD, "bet show for 5 on 1\n"), (GOOD, ""),
                           ("bet three for 1 box 1,2,3\n", "bet three for 1 on 1 / 2 / 3\n"),
                           ("bet trio for 2 box 1,2,3\n", "bet trio for 2 on 1 / 2 / 3\n"),
                           ("bet double for 500 on 2,5 / 4\n", "bet double for 500 on 2,3 / 4\n")]:
            answer = both(bet, other)
            self.assertEqual([type(answer)] + [type(number) for number in answer], [list] + [int] * len(answer))


class TwoPoolsTest(unittest.TestCase):
    def test_every_two_pools_of_a_card(self):
        bets = [written(name, 1, "on", fields) for name, kind, size, race, fields in POOLS]
        for one, other in itertools.product(range(len(bets)), repeat=2):
            count = many(bets[one], CARD)[1] if one == other else 0
            self.assertEqual(both(bets[one], bets[other], CARD), [0, count], (bets[one], bets[other]))

    def test_pools_of_the_same_kind_and_race(self):
        for kind, words in [("place 2", ["on 1,2"]), ("order 3", ["on 1 / 2 / 3,4", "box 1,2,3", "key 1 with 2,3"]),
                            ("any 3", ["on 1 / 2 / 3,4", "box 1,2,3", "key 1 with 2,3"]), ("legs 2", ["on 1,2 / 1"])]:
            card = "day d\nrace 4\nrace 4\n" + "".join(
                f"pool {name} {kind} from 1 take 0 break 1 least 0 unit 1 none refund\n" for name in ["p", "q", "p2"])
            for some in words:
                bets = [f"bet {name} for 1 {some}\n" for name in ["p", "q", "p2"]]
                for one, other in itertools.product(range(3), repeat=2):
                    answer = many(bets[one], card) if one == other else [0, 0]
                    self.assertEqual(both(bets[one], bets[other], card), answer)
                    self.assertEqual(answer[1] > 0, one == other)

    def test_the_largest_pools(self):
        everything = [written("p4", 1, "on", [FULL]), written("o3", 1, "box", [FULL]), written("o4", 1, "box", [FULL]),
                      written("a3", 1, "box", [FULL]), written("l6", 1, "on", [FULL] * 6)]
        for one, other in itertools.permutations(everything, 2):
            self.assertEqual(both(one, other, big_day()), [0, 0])


class LargestTest(unittest.TestCase):
    def setUp(self):
        self.card = big_day()
        self.began = time.process_time()

    def soon(self, calls):
        """So many calls were made since the test began; going through a large pool takes far longer."""
        self.assertLess(time.process_time() - self.began, 1 * calls)

    def shared(self, bet, other, count):
        self.assertEqual(both(bet, other, self.card), [0, count], (bet, other))
        self.assertEqual(both(other, bet, self.card), [0, count], (other, bet))

    def test_six_legs(self):
        everything = written("l6", 11, "on", [FULL] * 6)
        self.shared(everything, everything, 24 ** 6)
        self.shared(everything, written("l6", 1, "on", [FULL] * 5 + [[24]]), 24 ** 5)
        low, high = written("l6", 1, "on", [FULL[:16]] * 6), written("l6", 1, "on", [FULL[8:]] * 6)
        self.shared(low, high, 8 ** 6)
        self.shared(low, written("l6", 1, "on", [FULL[15:]] * 6), 1)
        self.shared(low, written("l6", 1, "on", [FULL] * 5 + [FULL[16:]]), 0)
        self.shared(low, written("l6", 1, "on", [FULL[16:]] + [FULL] * 5), 0)
        self.soon(12)

    def test_six_legs_with_unlike_sets(self):
        chance = random.Random(33)
        for step in range(40):
            sets, others = [[a_part(chance, FULL) for leg in range(6)] for bet in range(2)]
            count = 1
            for some, more in zip(sets, others):
                count *= len(set(some) & set(more))
            self.shared(written("l6", 1, "on", sets), written("l6", 1, "on", others), count)
        self.soon(80)

    def test_order_4_told_by_hand(self):
        box = written("o4", 8420, "box", [FULL])
        self.shared(box, box, 255024)
        self.shared(box, written("o4", 1, "on", [FULL] * 4), 255024)
        self.shared(box, written("o4", 1, "key", [[24], FULL[:-1]]), 42504)
        self.shared(written("o4", 1, "box", [FULL[:16]]), written("o4", 1, "box", [FULL[8:]]), 8 * 7 * 6 * 5)
        self.shared(written("o4", 1, "box", [FULL[:14]]), written("o4", 1, "box", [FULL[11:]]), 0)
        # All of the bankers of either are there; the places left are the others' that both have.
        self.shared(written("o4", 1, "key", [[1], FULL[1:]]), written("o4", 1, "key", [[24], FULL[:-1]]), 12 * 22 * 21)
        two = written("o4", 1, "key", [[1, 2], FULL[2:]])
        self.shared(two, written("o4", 1, "key", [[2, 3], [1] + FULL[3:]]), 24 * 21)
        self.shared(two, written("o4", 1, "key", [[23, 24], FULL[:-2]]), 24)
        three = written("o4", 1, "key", [[1, 2, 3], FULL[3:]])
        self.shared(three, three, 504)
        self.shared(three, written("o4", 1, "key", [[1, 2, 4], [3] + FULL[4:]]), 24)
        self.shared(three, written("o4", 1, "key", [[22, 23, 24], FULL[:-3]]), 0)
        self.shared(three, written("o4", 1, "key", [[1, 2, 3], FULL[20:]]), 96)
        self.soon(24)

    def test_order_4_one_by_one(self):
        chance = random.Random(34)
        everything = rows("order", [FULL] * 4)
        bets = [("on", [a_part(chance, FULL, 8) for place in range(4)]), ("on", [FULL[:12], FULL[6:18], [3], FULL]),
                ("box", [a_part(chance, FULL, 15)]), ("key", [[7], FULL[8:]]), ("key", [[3, 9], FULL[9:20]]),
                ("key", [[3, 9, 12], FULL[12:]])]
        tests = {"on": lambda row, sets: all(one in some for one, some in zip(row, sets)),
                 "box": lambda row, sets: set(row) <= set(sets[0]),
                 "key": lambda row, sets: set(sets[0]) <= set(row) <= set(sets[0] + sets[1])}
        told = [{row for row in everything if tests[how](row, sets)} for how, sets in bets]
        for one, other in itertools.combinations_with_replacement(range(len(bets)), 2):
            self.shared(written("o4", 1, *bets[one]), written("o4", 1, *bets[other]), len(told[one] & told[other]))

    def test_any_3(self):
        box = written("a3", 1, "box", [FULL])
        self.shared(box, box, 2024)
        self.shared(box, written("a3", 1, "on", [FULL] * 3), 2024)
        self.shared(box, written("a3", 1, "key", [[12], FULL[:11] + FULL[12:]]), 253)
        self.shared(written("a3", 1, "key", [[1], FULL[1:]]), written("a3", 1, "key", [[24], FULL[:-1]]), 22)
        self.shared(written("a3", 1, "key", [[1, 2], FULL[2:]]), written("a3", 1, "key", [[23, 24], FULL[:-2]]), 0)
        self.shared(written("a3", 1, "box", [FULL[:16]]), written("a3", 1, "box", [FULL[8:]]), 56)
        self.shared(written("a3", 1, "on", [FULL[:8], FULL[8:16], FULL[16:]]), box, 512)
        self.shared(written("a3", 1, "on", [FULL[:8], FULL[8:16], FULL[16:]]),
                    written("a3", 1, "on", [FULL[16:], FULL[:4], FULL[8:16]]), 256)
        self.soon(16)

    def test_place(self):
        self.shared(written("p4", 1, "on", [FULL]), written("p4", 1000000, "on", [FULL]), 24)
        self.shared(written("p4", 1, "on", [FULL[:16]]), written("p4", 1, "on", [FULL[8:]]), 8)


class RefusalTest(unittest.TestCase):
    def refused(self, card, bet, number, good=GOOD):
        """Whichever of the two bets is this one."""
        for pair in [(bet, good), (good, bet), (bet, bet)]:
            self.assertEqual(both(*pair, card), [number], bet[:60])

    def test_each_alone(self):
        self.refused("x" * 65537, GOOD, -2)
        self.refused(DAY + "\n" * (65537 - len(DAY)), GOOD, -2)
        self.refused(DAY, GOOD + "x" * (4097 - len(GOOD)), -2)
        self.refused(DAY, "x" * 4200, -2)
        self.refused("", GOOD, -8)
        self.refused(DAY[:-1], GOOD, -8)
        self.refused("x" * 65536, GOOD, -8)
        self.refused(DAY, GOOD + "x" * (4096 - len(GOOD)), -6)

    def test_each_fault_alone(self):
        met = {}
        for kind, place, card, bet in faulty_bets():
            self.assertEqual(judge(bet, card), [-6, kind, place], bet)
            good = GOOD if card == DAY else "bet p4 for 1 on 1\n"
            self.assertEqual(both(good, good, card), [0, 1])
            self.refused(card, bet, -6, good)
            met[kind] = True
        self.assertEqual(sorted(met), [1, 2, 3, 4, 5, 6, 7, 8])

    def test_two_faults(self):
        bets = [bet for kind, place, card, bet in faulty_bets() if card == DAY]
        for bet, other in itertools.product(bets, repeat=2):
            self.assertEqual(both(bet, other, DAY), [-6])

    def test_in_their_order(self):
        self.refused("x" * 65537, "x" * 4097, -2)
        self.refused("x", "x" * 4097, -2)
        self.refused("x" * 65537, "", -2)
        self.refused("x", "", -8)
        self.refused("x", "x" * 4096, -8)
        self.refused(DAY, "x" * 4096, -6)

    def test_the_other_s_length_before_all_else(self):
        for bet in ["", "x" * 4096, "bet lose for 1 on 1\n"]:
            for card in [DAY, "x"]:
                self.refused(card, "x" * 4097, -2, bet)

    def test_faults_before_two_pools(self):
        self.assertEqual(both(GOOD, "bet show for 5 on 1\n"), [0, 0])
        self.assertEqual(both(GOOD, "bet show for 4 on 1\n"), [-6])
        self.assertEqual(both("bet show for 5 on 4\n", GOOD), [-6])

    def test_many_is_no_refusal(self):
        bet = f"bet four for 1 box {numbers(1, 24)}\n"
        self.assertEqual(both(bet, bet), [0, 255024])


class PureTest(unittest.TestCase):
    def test_the_same_list_twice(self):
        for text in ["bet trio for 2 key 1,2 with 3,5\n", GOOD, "bet three for 1 box 1,2,3,6\n",
                     "bet lose for 1 on 1\n"]:
            card, bet = codes(DAY), codes(text)
            self.assertEqual(desk.both(card, bet, bet), desk.both(card, bet, list(bet)))
            self.assertEqual([card, bet], [codes(DAY), codes(text)])

    def test_asked_again_in_another_order(self):
        bets = ["bet trio for 2 key 1,2 with 3,5\n", "bet trio for 2 box 1,2,3,5\n", GOOD,
                "bet trio for 2 on 1 / 1 / 2\n", "bet three for 1 box 1,2,3,6\n",
                "bet three for 1 key 2 with 1,3,4\n", "x" * 4097]
        asked = list(itertools.product(bets, bets, [DAY, "x"]))
        first = [both(*texts) for texts in asked]
        self.assertEqual([both(*texts) for texts in reversed(asked)][::-1], first)


if __name__ == "__main__":
    unittest.main()
