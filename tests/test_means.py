"""Good bets of each kind and way, what they mean, and that what means the same is the same text."""

import random
import unittest

from tests.helper import judge, means

POOLS = ["win", "show", "exacta", "trio", "four", "quinella", "three", "double", "five"]
GOOD = [
    ("bet win for 1 on 1\n", [0, 0, 0, 1, 1, 1, 1]),
    ("bet win for 17 on 2,4,6\n", [0, 0, 0, 17, 1, 3, 2, 4, 6]),
    ("bet show for 10 on 1,2,3,5\n", [0, 1, 0, 10, 1, 4, 1, 2, 3, 5]),
    ("bet exacta for 10 on 1 / 4\n", [0, 2, 0, 10, 2, 1, 1, 1, 4]),
    ("bet exacta for 10 on 1,4 / 1,4\n", [0, 2, 0, 10, 2, 2, 1, 4, 2, 1, 4]),
    ("bet exacta for 10 box 1,4\n", [0, 2, 1, 10, 1, 2, 1, 4]),
    ("bet exacta for 10 key 4 with 1\n", [0, 2, 2, 10, 2, 1, 4, 1, 1]),
    ("bet trio for 2 on 1 / 2,3 / 1,5\n", [0, 3, 0, 2, 3, 1, 1, 2, 2, 3, 2, 1, 5]),
    ("bet trio for 1000000 box 1,2,3,5\n", [0, 3, 1, 1000000, 1, 4, 1, 2, 3, 5]),
    ("bet trio for 2 key 2,5 with 1,3\n", [0, 3, 2, 2, 2, 2, 2, 5, 2, 1, 3]),
    ("bet four for 3 on 24 / 10 / 1,2 / 20\n", [0, 4, 0, 3, 4, 1, 24, 1, 10, 2, 1, 2, 1, 20]),
    ("bet quinella for 1 on 2,3 / 2\n", [0, 5, 0, 1, 2, 2, 2, 3, 1, 2]),
    ("bet quinella for 1 box 1,5\n", [0, 5, 1, 1, 1, 2, 1, 5]),
    ("bet quinella for 1 key 3 with 1,2,5\n", [0, 5, 2, 1, 2, 1, 3, 3, 1, 2, 5]),
    ("bet three for 1 on 6 / 5 / 4\n", [0, 6, 0, 1, 3, 1, 6, 1, 5, 1, 4]),
    ("bet three for 1 box 1,2,6\n", [0, 6, 1, 1, 1, 3, 1, 2, 6]),
    ("bet three for 1 key 1,6 with 2\n", [0, 6, 2, 1, 2, 2, 1, 6, 1, 2]),
    ("bet double for 500 on 2,5 / 4\n", [0, 7, 0, 500, 2, 2, 2, 5, 1, 4]),
    ("bet five for 1 on 1 / 5 / 1,4 / 24 / 1,2\n", [0, 8, 0, 1, 5, 1, 1, 1, 5, 2, 1, 4, 1, 24, 2, 1, 2]),
]


def written(answer):
    """The one text that means this."""
    words = ["bet", POOLS[answer[1]], "for", str(answer[3]), ["on", "box", "key"][answer[2]]]
    at = 5
    sets = []
    while at < len(answer):
        sets.append(",".join(str(number) for number in answer[at + 1:at + 1 + answer[at]]))
        at += 1 + answer[at]
    assert len(sets) == answer[4] and at == len(answer)
    return " ".join(words + [(" with " if answer[2] == 2 else " / ").join(sets)]) + "\n"


class MeansTest(unittest.TestCase):
    def test_good_bets(self):
        for bet, answer in GOOD:
            with self.subTest(bet=bet):
                self.assertEqual(judge(bet), [0])
                self.assertEqual(means(bet), answer)

    def test_answers_are_plain_numbers(self):
        for bet, answer in GOOD:
            self.assertEqual({type(number) for number in judge(bet) + means(bet)}, {int})
            self.assertEqual({type(judge(bet)), type(means(bet))}, {list})
        for text in ["", "\n", "x\n", "bet win for 1 on 1\nx"]:
            self.assertEqual({type(number) for number in judge(text) + means(text)}, {int})

    def test_pools_are_numbered_from_0_to_63(self):
        card = "day d\nrace 2\n" + "".join(
            f"pool p{number} place 1 from 1 take 0 break 1 least 0 unit 1 none refund\n" for number in range(64))
        for number in [0, 1, 9, 10, 63]:
            self.assertEqual(means(f"bet p{number} for 7 on 2\n", card), [0, number, 0, 7, 1, 1, 2])
        self.assertEqual(judge("bet p64 for 7 on 2\n", card), [-6, 5, 4])

    def test_a_pool_may_be_called_like_another_word(self):
        card = "day d\nrace 2\npool for place 1 from 1 take 0 break 1 least 0 unit 1 none refund\n"
        self.assertEqual(means("bet for for 7 on 2\n", card), [0, 0, 0, 7, 1, 1, 2])

    def test_place_has_one_set_whatever_k(self):
        card = "day d\nrace 4\n" + "".join(
            f"pool p{size} place {size} from 1 take 0 break 1 least 0 unit 1 none refund\n" for size in range(1, 5))
        for size in range(1, 5):
            self.assertEqual(means(f"bet p{size} for 1 on 3\n", card), [0, size - 1, 0, 1, 1, 1, 3])
            self.assertEqual(judge(f"bet p{size} for 1 on 3 / 4\n", card), [-6, 3, 18])

    def test_legs_from_a_later_race(self):
        card = ("day d\nrace 2\nrace 3\nrace 4 couple 1 2\nrace 2\n"
                "pool l legs 3 from 2 take 0 break 1 least 0 unit 1 none carry\n")
        self.assertEqual(means("bet l for 1 on 1,2,3 / 1,3,4 / 2\n", card),
                         [0, 0, 0, 1, 3, 3, 1, 2, 3, 3, 1, 3, 4, 1, 2])
        self.assertEqual(judge("bet l for 1 on 1 / 2 / 1\n", card), [-6, 4, 19])

    def test_couples_leave_the_heads(self):
        card = ("day d\nrace 24" + "".join(f" couple {a} {a + 8}" for a in range(1, 9)) + "\n"
                "pool w place 1 from 1 take 0 break 1 least 0 unit 1 none refund\n")
        for number in range(1, 25):
            answer = [-6, 4, 15] if 9 <= number <= 16 else [0]
            self.assertEqual(judge(f"bet w for 1 on {number}\n", card), answer)


class SameTextTest(unittest.TestCase):
    def look(self, text):
        """A text is one bet's, written in the one way there is, or has one first fault."""
        verdict = judge(text)
        if verdict == [0]:
            answer = means(text)
            self.assertEqual(written(answer), text)
            self.assertEqual(answer[0], 0)
        else:
            self.assertEqual(verdict[0], -6)
            self.assertEqual(len(verdict), 3)
            self.assertIn(verdict[1], range(1, 9))
            self.assertIn(verdict[2], range(len(text) + 1))
            self.assertEqual(verdict[1] == 1, verdict[2] == len(text))
            self.assertEqual(means(text), [-6])

    def test_good_bets_are_written_in_one_way(self):
        for bet, answer in GOOD:
            self.assertEqual(written(answer), bet)

    def test_texts_one_byte_away_from_a_bet(self):
        signs = " \n,/0123459abo\x00\x7f\xff"
        for bet, answer in GOOD:
            for place in range(len(bet)):
                self.look(bet[:place] + bet[place + 1:])
                sign = signs[(place * 7 + len(bet)) % len(signs)]
                self.look(bet[:place] + sign + bet[place:])
                self.look(bet[:place] + sign + bet[place + 1:])

    def test_texts_of_shuffled_words(self):
        chance = random.Random(20)
        words = ["bet", "win", "trio", "three", "double", "for", "2", "100", "on", "box", "key", "with", "/", "1",
                 "1,2", "1,2,3", "3,1", "\n"]
        for bet, answer in GOOD * 20:
            row = bet[:-1].split(" ")
            for step in range(chance.randrange(1, 3)):
                at = chance.randrange(len(row))
                row[at:at + chance.randrange(2)] = [chance.choice(words)]
            self.look(" ".join(row) + "\n")

    def test_different_good_bets_mean_something_different(self):
        answers = {tuple(means(bet)) for bet, answer in GOOD}
        self.assertEqual(len(answers), len(GOOD))


if __name__ == "__main__":
    unittest.main()
