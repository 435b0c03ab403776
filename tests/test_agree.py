"""That all calls say the same of a bet, that a text is one bet's or has one fault, and each meaning has one text."""

import itertools
import random
import unittest

from tests.helper import (CARD, DAY, POOLS, a_part, big_day, both, card_of, cost, has, judge, keys, list_of, many,
                          means, nth, numbers, rows, written)

FULL = list(range(1, 25))
NAMES = [pool[0] for pool in POOLS]


def good_bets(chance, pool, card, on=4):
    """Some good bets of each way that the pool has."""
    name, kind, size, race, fields = pool
    bets = []
    while len(bets) < on:
        bet = written(name, chance.randrange(1, 99), "on", [a_part(chance, field) for field in fields])
        if judge(bet, card) == [0]:
            bets.append(bet)
    if kind in ("order", "any"):
        bets += [written(name, chance.randrange(1, 99), "box", [a_part(chance, fields[0], size)]) for step in range(2)]
        some = chance.sample(keys(fields[0], size), 2)
        bets += [written(name, chance.randrange(1, 99), "key", sets) for sets in some]
    return bets


def text_of(meaning):
    """The one text of CARD that means this."""
    sets = []
    at = 5
    while at < len(meaning):
        sets.append(meaning[at + 1:at + 1 + meaning[at]])
        at += 1 + meaning[at]
    return written(NAMES[meaning[1]], meaning[3], ["on", "box", "key"][meaning[2]], sets)


class OneBetTest(unittest.TestCase):
    def test_small_pools(self):
        chance = random.Random(41)
        for pool in POOLS:
            card = card_of([pool])
            size = len(rows(pool[1], pool[4]))
            for bet in good_bets(chance, pool, card):
                answer = list_of(bet, card)
                told = answer[1:]
                self.assertEqual(answer[0], 0)
                self.assertEqual(told, sorted(set(told)), bet)
                self.assertEqual(many(bet, card), [0, len(told)], bet)
                self.assertEqual(cost(bet, card), [0, means(bet, card)[3] * len(told)], bet)
                self.assertEqual([nth(i, bet, card) for i in range(len(told))], [[0, number] for number in told], bet)
                self.assertEqual(nth(len(told), bet, card), [-4], bet)
                fit = set(told)
                self.assertEqual([has(number, bet, card) for number in range(size)],
                                 [[0, int(number in fit)] for number in range(size)], bet)
                self.assertEqual(has(size, bet, card), [-1], bet)
                self.assertEqual(both(bet, bet, card), [0, len(told)], bet)

    def test_the_largest_pools(self):
        card = big_day()
        chance = random.Random(42)
        for bet, size in [
                (written("l6", 1, "on", [[2, 3, 5, 24], FULL, [7], [1, 24], [1], FULL[9:]]), 24 ** 6),
                (written("o4", 1, "box", [FULL[3:12]]), 255024),
                (written("o4", 1, "key", [[2, 24], FULL[5:20]]), 255024),
                (written("o4", 1, "key", [[2, 7, 24], FULL[8:20]]), 255024), (written("a3", 1, "box", [FULL]), 2024),
                (written("o4", 1, "on", [FULL[:9], FULL[3:10], [5, 24], FULL[10:]]), 255024),
                (written("o4", 1, "key", [[13], FULL[14:]]), 255024), (written("a3", 1, "key", [[9], FULL[9:]]), 2024)]:
            told = list_of(bet, card)[1:]
            self.assertEqual(told, sorted(set(told)))
            self.assertEqual([many(bet, card), cost(bet, card)], [[0, len(told)]] * 2)
            self.assertEqual(both(bet, bet, card), [0, len(told)])
            for i in [0, 1, len(told) - 1] + [chance.randrange(len(told)) for step in range(5)]:
                self.assertEqual(nth(i, bet, card), [0, told[i]])
                for number in [told[i] - 1, told[i], told[i] + 1]:
                    if 0 <= number < size:
                        self.assertEqual(has(number, bet, card), [0, int(number in told)])
            self.assertLess(told[-1], size)
            self.assertEqual([nth(len(told), bet, card), has(size, bet, card)], [[-4], [-1]])

    def test_what_is_too_long_to_list(self):
        card = big_day()
        for bet in [f"bet o4 for 1 box {numbers(1, 24)}\n", written("l6", 11, "on", [FULL] * 6),
                    f"bet o4 for 1 key 1,24 with {numbers(2, 23)}\n", f"bet o3 for 1 box {numbers(2, 24)}\n"]:
            count = many(bet, card)
            self.assertGreater(count[1], 4096)
            self.assertEqual([list_of(bet, card), both(bet, bet, card)], [[-9], count])
            self.assertEqual([nth(count[1] - 1, bet, card)[0], nth(count[1], bet, card)[0]], [0, -4])


class TwoBetsTest(unittest.TestCase):
    def test_lists_in_common(self):
        chance = random.Random(43)
        for pool in POOLS:
            card = card_of([pool])
            bets = good_bets(chance, pool, card, on=8)
            lists = [set(list_of(bet, card)[1:]) for bet in bets]
            for one, other in itertools.product(range(len(bets)), repeat=2):
                self.assertEqual(both(bets[one], bets[other], card), [0, len(lists[one] & lists[other])],
                                 (bets[one], bets[other]))

    def test_lists_in_common_in_the_largest_pools(self):
        card = big_day()
        chance = random.Random(44)
        for pool in [("o4", "order", 4, 1, [FULL] * 4), ("o3", "order", 3, 1, [FULL] * 3),
                     ("a3", "any", 3, 1, [FULL] * 3), ("l6", "legs", 6, 1, [FULL] * 6)]:
            name, kind, size, race, fields = pool
            # Of few numbers, so that the bets meet.
            shared = chance.sample(FULL, 6 if kind == "legs" else 9)
            bets = [written(name, 1, "on", [sorted(chance.sample(shared, 4)) for field in fields]) for step in range(6)]
            if kind != "legs":
                bets += [written(name, 1, "box", [sorted(chance.sample(shared, 7))]) for step in range(3)]
                for bankers in range(1, size):
                    some = chance.sample(shared, 8)
                    bets.append(written(name, 1, "key", [sorted(some[:bankers]), sorted(some[bankers:])]))
            bets = [bet for bet in bets if judge(bet, card) == [0]]
            lists = [set(list_of(bet, card)[1:]) for bet in bets]
            common = 0
            for one, other in itertools.combinations(range(len(bets)), 2):
                count = len(lists[one] & lists[other])
                self.assertEqual(both(bets[one], bets[other], card), [0, count], (bets[one], bets[other]))
                common += count > 0
            self.assertGreater(common, 5)

    def test_a_bet_is_the_two_that_it_can_be_parted_into(self):
        card = big_day()
        others = FULL[:8] + FULL[9:]
        whole = written("o4", 1, "box", [FULL])
        banked, rest = written("o4", 1, "key", [[9], others]), written("o4", 1, "box", [others])
        self.assertEqual(both(banked, rest, card), [0, 0])
        for bet in [whole, written("o4", 1, "box", [FULL[5:20]]), written("o4", 1, "key", [[1, 2], FULL[5:]]),
                    written("o4", 1, "on", [FULL[:12], FULL[8:], FULL[3:19], FULL[1::2]])]:
            self.assertEqual(both(bet, banked, card)[1] + both(bet, rest, card)[1], many(bet, card)[1])
            self.assertEqual(both(bet, whole, card), many(bet, card))


class OneTextTest(unittest.TestCase):
    def looked_at(self, text, good):
        """Whether it's a bet; all calls are to say whether it is, and a bet is to be written in its one way."""
        verdict = judge(text, CARD)
        answers = [means(text, CARD), many(text, CARD), cost(text, CARD), has(0, text, CARD), nth(0, text, CARD),
                   list_of(text, CARD), both(text, good, CARD), both(good, text, CARD)]
        if verdict == [0]:
            self.assertEqual([answer[0] for answer in answers], [0] * 8, text)
            self.assertEqual(text_of(answers[0]), text)
            return True
        self.assertEqual(answers, [[-6]] * 8, text)
        self.assertEqual([verdict[0], len(verdict)], [-6, 3])
        self.assertIn(verdict[1], range(1, 9))
        self.assertIn(verdict[2], range(len(text) + 1))
        self.assertEqual(judge(text, CARD), verdict)
        return False

    def test_texts_close_to_a_bet(self):
        chance = random.Random(45)
        signs = " \n,/0123456abo\x00\xff"
        found = {True: 0, False: 0}
        for pool in POOLS:
            for bet in good_bets(chance, pool, CARD, on=2):
                self.assertTrue(self.looked_at(bet, bet))
                for place in range(0, len(bet), 2):
                    sign = chance.choice(signs)
                    for text in [bet[:place] + sign + bet[place + 1:], bet[:place] + sign + bet[place:],
                                 bet[:place] + bet[place + 1:]]:
                        found[self.looked_at(text, bet)] += 1
        self.assertGreater(min(found.values()), 100)

    def test_good_bets_that_are_written_otherwise_mean_something_else(self):
        chance = random.Random(46)
        texts = {bet for pool in POOLS for bet in good_bets(chance, pool, CARD, on=20)}
        self.assertEqual(len({tuple(means(bet, CARD)) for bet in texts}), len(texts))

    def test_other_ways_to_write_are_faults(self):
        self.assertEqual(judge("bet trio for 2 key 1,2 with 3,5\n"), [0])
        for text in ["bet trio for 02 key 1,2 with 3,5\n", "bet trio for 2 key 2,1 with 3,5\n",
                     "bet trio for 2 key 1,1,2 with 3,5\n", "bet trio for 2 key 1,2 with 5,3\n",
                     "bet trio for 2 key 1,2  with 3,5\n", " bet trio for 2 key 1,2 with 3,5\n",
                     "bet trio for 2 key 1,2 with 3,5 \n", "bet trio for 2 key 1, 2 with 3,5\n",
                     "bet trio for 2 key 1,2, with 3,5\n", "bet trio for 2 key 1,2 with 03,5\n",
                     "bet trio for +2 key 1,2 with 3,5\n", "bet trio for 2 key 1,2 with 3,5\n\n",
                     "bet trio for 2 key 1,2 with 3,5", "bet trio for 2 key 1,2 with 3,5\r\n",
                     "BET trio for 2 key 1,2 with 3,5\n", "bet trio for 2 on 1/ 2 / 3\n", "bet trio for 2 on 1/2/3\n"]:
            self.assertEqual([judge(text)[0], list_of(text), both(text, text)], [-6, [-6], [-6]], text)


class ListTest(unittest.TestCase):
    def test_each_combination_once_and_none_beside(self):
        # All bets of one combination each, told one by one, are together the whole pool's list.
        for pool in POOLS:
            name, kind, size, race, fields = pool
            ones = [list_of(written(name, 1, "on", [[one] for one in row]), CARD)[1:] for row in rows(kind, fields)]
            self.assertEqual(sum(ones, []), list_of(written(name, 1, "on", fields), CARD)[1:])

    def test_more_stake_is_the_same_list(self):
        for stake in [2, 4, 1000000]:
            self.assertEqual(list_of(f"bet trio for {stake} key 1,2 with 5\n", DAY), [0, 1, 4, 7, 10, 18, 20])


if __name__ == "__main__":
    unittest.main()
