"""Of how many combinations a bet is and what it costs: many and cost against the combinations one by one."""

import itertools
import random
import unittest

from tests.helper import (CARD, DAY, POOLS, FIRST, SECOND, THIRD, a_part, big_day, card_of, cost, faulty_bets, fits,
                          judge, keys, many, means, numbers, parts, rows, written)

MOST = 2 ** 31 - 1


class ManyTest(unittest.TestCase):
    def counted(self, pool, how, sets, stake=1):
        """Hold both calls against counting the pool's combinations one by one."""
        name, kind, size, race, fields = pool
        count = len([row for row in rows(kind, fields) if fits(kind, how, row, sets)])
        bet = written(name, stake, how, sets)
        answers = [[-6], [-6]] if count == 0 else [[0, count], [0, count * stake]]
        card = card_of([pool])
        self.assertEqual([many(bet, card), cost(bet, card)], answers, bet)

    def test_told_by_hand(self):
        for bet, count, price in [
                ("bet win for 1 on 1\n", 1, 1), ("bet win for 17 on 2,4,6\n", 3, 51),
                ("bet show for 10 on 1,2,3,5\n", 4, 40), ("bet exacta for 10 on 1 / 4\n", 1, 10),
                ("bet exacta for 10 on 1,4 / 1,4\n", 2, 20), ("bet exacta for 30 box 1,4\n", 2, 60),
                ("bet exacta for 10 key 4 with 1\n", 2, 20), ("bet trio for 2 on 1 / 2,3 / 1,5\n", 2, 4),
                ("bet trio for 2 on 1,2,3 / 1,2,3 / 1,2,3\n", 6, 12),
                ("bet trio for 1000000 box 1,2,3,5\n", 24, 24000000),
                ("bet trio for 2 key 2,5 with 1,3\n", 12, 24), ("bet trio for 2 key 2 with 1,3,5\n", 18, 36),
                ("bet four for 3 on 24 / 10 / 1,2 / 20\n", 2, 6), ("bet four for 1 key 1 with 2,3,4\n", 24, 24),
                ("bet quinella for 1 on 2,3 / 2\n", 1, 1), ("bet quinella for 4 on 2,3 / 2,3\n", 1, 4),
                ("bet quinella for 1 on 1,2 / 2,3\n", 3, 3), ("bet quinella for 1 box 1,3,5\n", 3, 3),
                ("bet quinella for 1 key 3 with 1,2,5\n", 3, 3), ("bet three for 1 on 6 / 5 / 4\n", 1, 1),
                ("bet three for 5 box 1,2,3,6\n", 4, 20), ("bet three for 1 key 1,6 with 2\n", 1, 1),
                ("bet three for 2 key 1 with 2,3,4\n", 3, 6), ("bet double for 500 on 2,5 / 4\n", 2, 1000),
                ("bet five for 1 on 1 / 5 / 1,4 / 24 / 1,2\n", 4, 4)]:
            with self.subTest(bet=bet):
                self.assertEqual(many(bet), [0, count])
                self.assertEqual(cost(bet), [0, price])

    def test_every_bet_on_in_pools_of_one_race(self):
        for pool in POOLS:
            name, kind, size, race, fields = pool
            if fields[0] == FIRST and kind != "legs":
                for sets in itertools.product(*map(parts, fields)):
                    self.counted(pool, "on", sets)

    def test_every_bet_on_two_legs(self):
        pool = POOLS[9]
        for sets in itertools.product(parts(SECOND), parts(THIRD)):
            self.counted(pool, "on", sets)

    def test_every_box_and_key(self):
        for pool in POOLS:
            name, kind, size, race, fields = pool
            if kind in ("order", "any"):
                for some in parts(fields[0], size):
                    self.counted(pool, "box", [some])
                for sets in keys(fields[0], size):
                    self.counted(pool, "key", sets)

    def test_bets_on_at_random(self):
        chance = random.Random(5)
        for pool in POOLS:
            for step in range(60):
                sets = [a_part(chance, field) for field in pool[4]]
                self.counted(pool, "on", sets, chance.randrange(1, 1000))

    def test_sets_that_are_alike(self):
        for pool in POOLS:
            name, kind, size, race, fields = pool
            if kind in ("order", "any"):
                for some in parts(fields[0]):
                    self.counted(pool, "on", [some] * size)
                    if len(some) >= size:
                        alike = written(name, 3, "on", [some] * size)
                        box = written(name, 3, "box", [some])
                        self.assertEqual(many(alike, CARD), many(box, CARD))
                        self.assertEqual(cost(alike, CARD), cost(box, CARD))

    def test_sets_of_one_number_each(self):
        for pool in POOLS:
            name, kind, size, race, fields = pool
            if kind in ("order", "any"):
                for row in itertools.product(*fields):
                    self.counted(pool, "on", [[number] for number in row])

    def test_sets_that_overlap(self):
        chance = random.Random(6)
        for pool in POOLS:
            name, kind, size, race, fields = pool
            if kind in ("order", "any"):
                for step in range(30):
                    shared = chance.choice(fields[0])
                    sets = [sorted({shared, chance.choice(fields[0])}) for place in range(size)]
                    self.counted(pool, "on", sets, 7)

    def test_the_order_of_sets_is_all_one_in_any(self):
        for sets in [[[1], [1, 2], [1, 2, 3]], [[1, 2], [2, 3], [5]], [[1, 2, 3, 5], [1, 2], [2]]]:
            answers = [many(written("a3", 1, "on", order), CARD) for order in itertools.permutations(sets)]
            self.assertEqual(answers, [answers[0]] * 6)
            self.counted(POOLS[7], "on", sets)

    def test_a_box_is_a_key_and_a_lesser_box(self):
        # A combination of the box has the first number, or it is of the rest alone.
        for pool, size in [("o4", 4), ("o3", 3), ("a3", 3)]:
            whole = many(f"bet {pool} for 1 box {numbers(1, 24)}\n", big_day())[1]
            banked = many(f"bet {pool} for 1 key 1 with {numbers(2, 24)}\n", big_day())[1]
            rest = many(f"bet {pool} for 1 box {numbers(2, 24)}\n", big_day())[1]
            self.assertEqual(whole, banked + rest)

    def test_place_counts_interests_whatever_k(self):
        for size in range(1, 5):
            card = f"day d\nrace 6\npool p place {size} from 1 take 0 break 1 least 0 unit 5 none refund\n"
            self.assertEqual(many("bet p for 15 on 1,3,4,6\n", card), [0, 4])
            self.assertEqual(cost("bet p for 15 on 1,3,4,6\n", card), [0, 60])


class LargestTest(unittest.TestCase):
    def dearest(self, pool, words, count):
        """The greatest stake that the bound of the cost lets through, and the next one."""
        stake = min(MOST // count, 1000000)
        bet = f"bet {pool} for {stake} {words}\n"
        self.assertEqual(many(bet, big_day()), [0, count])
        self.assertEqual(cost(bet, big_day()), [0, count * stake])
        above = f"bet {pool} for {stake + 1} {words}\n"
        kind = 4 if stake == 1000000 else 7
        self.assertEqual(judge(above, big_day()), [-6, kind, 11])
        self.assertEqual([many(above, big_day()), cost(above, big_day())], [[-6], [-6]])

    def test_full_sets(self):
        everything = numbers(1, 24)
        self.dearest("l6", "on " + " / ".join([everything] * 6), 191102976)
        self.dearest("l6", "on " + " / ".join([everything] * 5 + ["24"]), 7962624)
        self.dearest("o4", "on " + " / ".join([everything] * 4), 255024)
        self.dearest("o4", "box " + everything, 255024)
        self.dearest("o4", "key 24 with " + numbers(1, 23), 42504)
        self.dearest("o4", "key 1,24 with " + numbers(2, 23), 5544)
        self.dearest("o4", "key 1,2,3 with " + numbers(4, 24), 504)
        self.dearest("o3", "box " + everything, 12144)
        self.dearest("a3", "on " + " / ".join([everything] * 3), 2024)
        self.dearest("a3", "box " + everything, 2024)
        self.dearest("a3", "key 12 with " + numbers(13, 24), 66)
        self.dearest("p4", "on " + everything, 24)

    def test_cost_around_its_bound(self):
        # 2^31 - 1 is a prime and no bet's cost; 7,282 rows at 294,903 cost one less, 8^6 rows at 8,192 one more.
        sets = f"{numbers(1, 23)} / {numbers(1, 24)} / {numbers(10, 24)}"
        self.assertEqual(many(f"bet o3 for 294903 on {sets}\n", big_day()), [0, 7282])
        self.assertEqual(cost(f"bet o3 for 294903 on {sets}\n", big_day()), [0, MOST - 1])
        self.assertEqual(cost(f"bet o3 for 294904 on {sets}\n", big_day()), [-6])
        eights = " / ".join([numbers(17, 24)] * 6)
        self.assertEqual(cost(f"bet l6 for 8191 on {eights}\n", big_day()), [0, 2 ** 31 - 8 ** 6])
        self.assertEqual(judge(f"bet l6 for 8192 on {eights}\n", big_day()), [-6, 7, 11])
        self.assertEqual(many(f"bet l6 for 8192 on {eights}\n", big_day()), [-6])
        self.assertEqual(cost(f"bet l6 for 8192 on {eights}\n", big_day()), [-6])


class RefusalTest(unittest.TestCase):
    def refused(self, card, bet, number):
        for call in [many, cost]:
            self.assertEqual(call(bet, card), [number], bet[:60])

    def test_each_alone(self):
        good = "bet win for 1 on 1\n"
        self.refused("x" * 65537, good, -2)
        self.refused(DAY + "\n" * (65537 - len(DAY)), good, -2)
        self.refused(DAY, good + "x" * (4097 - len(good)), -2)
        self.refused("", good, -8)
        self.refused(DAY[:-1], good, -8)
        self.refused("x" * 65536, good, -8)

    def test_each_fault_alone(self):
        for kind, place, card, bet in faulty_bets():
            self.refused(card, bet, -6)
            self.assertEqual(judge(bet, card), [-6, kind, place], bet)

    def test_in_their_order(self):
        self.refused("x" * 65537, "x" * 4097, -2)
        self.refused("x", "x" * 4097, -2)
        self.refused("x" * 65537, "", -2)
        self.refused("x", "", -8)
        self.refused("x", "x" * 4096, -8)
        self.refused(DAY, "x" * 4096, -6)


class SameTest(unittest.TestCase):
    def agree(self, bet, card):
        """Whether the bet is a good one; all calls are to say the same of it."""
        verdict, meaning, count, price = judge(bet, card), means(bet, card), many(bet, card), cost(bet, card)
        if verdict != [0]:
            self.assertEqual([meaning, count, price], [verdict[:1]] * 3, bet)
            return False
        self.assertEqual([meaning[0], count[0], price[0]], [0, 0, 0])
        self.assertEqual([len(count), len(price)], [2, 2])
        self.assertGreater(count[1], 0)
        self.assertEqual(price[1], meaning[3] * count[1])
        self.assertLessEqual(price[1], MOST)
        self.assertEqual({type(number) for number in count + price}, {int})
        self.assertEqual([type(count), type(price)], [list, list])
        return True

    def test_texts_close_to_a_bet(self):
        chance = random.Random(7)
        signs = " \n,/01245abo\x00\xff"
        good = 0
        for pool in POOLS:
            name, kind, size, race, fields = pool
            bets = [written(name, 12, "on", [a_part(chance, field) for field in fields]) for step in range(4)]
            if kind in ("order", "any"):
                bets.append(written(name, 12, "box", [a_part(chance, fields[0], size)]))
                bets.append(written(name, 12, "key", chance.choice(keys(fields[0], size))))
            for bet in bets:
                good += self.agree(bet, CARD)
                for place in range(len(bet)):
                    good += self.agree(bet[:place] + chance.choice(signs) + bet[place + 1:], CARD)
                    good += self.agree(bet[:place] + bet[place + 1:], CARD)
        self.assertGreater(good, 200)

    def test_stakes_around_the_bound(self):
        everything = numbers(1, 24)
        for pool, words, stake in [("o4", "box " + everything, 8420), ("l6", "on " + " / ".join([everything] * 6), 11)]:
            found = [self.agree(f"bet {pool} for {stake + more} {words}\n", big_day()) for more in (-1, 0, 1, 2)]
            self.assertEqual(found, [True, True, False, False])

    def test_no_card_and_too_long(self):
        bet = "bet win for 1 on 1\n"
        for card in ["", "x", DAY[:-1], DAY + "\n", "x" * 65536, "x" * 65537]:
            self.assertFalse(self.agree(bet, card))
        self.assertFalse(self.agree(bet + "x" * 4097, DAY))
        self.assertTrue(self.agree(bet, DAY))


if __name__ == "__main__":
    unittest.main()
