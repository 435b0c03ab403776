"""What holds of every call: the order of refusals, lengths, the largest inputs, nothing changed and nothing kept."""

import contextlib
import inspect
import io
import sys
import unittest

from betwords import desk
from tests.helper import DAY, big_day, both, codes, cost, has, judge, list_of, many, means, nth, numbers

BET = "bet win for 1 on 1\n"
FAULTY = "bet lose for 1 on 1\n"
MOST = 4294967295


def with_number(call, number):
    """The call with its first argument told, so that it's asked of a card and a bet as the others are."""
    return lambda card, bet: call(number, card, bet)


def both_first(card, bet):
    return desk.both(card, bet, codes("bet trio for 2 box 1,2,3\n"))


def both_second(card, bet):
    return desk.both(card, codes("bet trio for 2 box 1,2,3\n"), bet)


def both_twice(card, bet):
    return desk.both(card, bet, bet)


CALLS = [desk.judge, desk.means, desk.many, desk.cost, desk.list_of, both_first, both_second, both_twice]
CALLS += [with_number(call, number) for call in [desk.has, desk.nth] for number in [0, 2, MOST]]


class Still(list):
    """A list that can't be changed, not for a while either."""

    def refuse(self, *arguments, **options):
        raise AssertionError("an argument was changed")

    __setitem__ = __delitem__ = __iadd__ = __imul__ = refuse
    append = clear = extend = insert = pop = remove = reverse = sort = refuse


def largest_bets():
    everything = numbers(1, 24)
    row = [24] + list(range(1, 25))
    return [
        ("bet p4 for 1 on " + everything + "\n", [0, 0, 0, 1, 1] + row),
        ("bet o4 for 1 on " + " / ".join([everything] * 4) + "\n", [0, 2, 0, 1, 4] + row * 4),
        ("bet o4 for 1 box " + everything + "\n", [0, 2, 1, 1, 1] + row),
        ("bet o4 for 1 key 1,2,3 with " + numbers(4, 24) + "\n",
         [0, 2, 2, 1, 2, 3, 1, 2, 3, 21] + list(range(4, 25))),
        ("bet a3 for 1 on " + " / ".join([everything] * 3) + "\n", [0, 3, 0, 1, 3] + row * 3),
        ("bet a3 for 1 box " + everything + "\n", [0, 3, 1, 1, 1] + row),
        ("bet a3 for 1 key 24 with " + numbers(1, 23) + "\n", [0, 3, 2, 1, 2, 1, 24, 23] + list(range(1, 24))),
        ("bet l6 for 1 on " + " / ".join([everything] * 6) + "\n", [0, 4, 0, 1, 6] + row * 6),
    ]


class RefusalTest(unittest.TestCase):
    def refused(self, card, bet, answer):
        self.assertEqual(judge(bet, card), answer)
        for call in [means, many, cost, list_of]:
            self.assertEqual(call(bet, card), answer[:1])
        for pair in [(bet, BET), (BET, bet), (bet, bet)]:
            self.assertEqual(both(*pair, card), answer[:1])
        for call in [has, nth]:
            for number in [0, MOST]:
                self.assertEqual(call(number, bet, card), answer[:1])

    def test_length_of_the_card(self):
        for filler in ["x", " ", "\n", "1", "a", "\x00"]:
            self.refused(filler * 65536, BET, [-8])
            self.refused(filler * 65537, BET, [-2])
        self.refused(DAY + "\n" * (65536 - len(DAY)), BET, [-8])
        self.refused(DAY + "\n" * (65537 - len(DAY)), BET, [-2])
        self.refused("day d\nrace 2\n" * 5041 + "day", BET, [-8])
        self.refused("x" * 66000, BET, [-2])

    def test_length_of_the_bet(self):
        self.refused(DAY, BET + "x" * (4096 - len(BET)), [-6, 8, len(BET)])
        self.refused(DAY, BET + "x" * (4097 - len(BET)), [-2])
        for filler in ["x", "1", ",", "/", "\x00"]:
            self.refused(DAY, filler * 4096, [-6, 1, 4096])
            self.refused(DAY, filler * 4097, [-2])
        self.refused(DAY, "x" * 4095 + "\n", [-6, 3, 0])
        self.refused(DAY, "x" * 4096 + "\n", [-2])
        self.refused(DAY, "x" * 4200, [-2])

    def test_long_words_in_a_bet(self):
        self.refused(DAY, "bet " + "a" * 4091 + "\n", [-6, 5, 4])
        self.refused(DAY, "bet win for " + "1" * 4083 + "\n", [-6, 4, 12])
        self.refused(DAY, "bet win for 1 on " + "1" * 4078 + "\n", [-6, 4, 17])
        self.refused(DAY, "bet win for 1 on 1" + ",1" * 2038 + "\n", [-6, 4, 17])
        self.refused(DAY, "bet win for 1 on 1" + " / 1" * 1019 + "\n", [-6, 3, 19])
        self.refused(DAY, "bet win for 1 on 1" + " x" * 2038 + "\n", [-6, 3, 19])

    def test_too_long_is_told_before_no_card_and_faults(self):
        self.refused("x" * 65537, "x" * 4097, [-2])
        self.refused("x" * 65537, FAULTY, [-2])
        self.refused("x", "x" * 4097, [-2])
        self.refused(DAY, "x" * 4097, [-2])

    def test_no_card_is_told_before_faults(self):
        for card in ["", "x", DAY[:-1], "x" * 65536]:
            for bet in ["", FAULTY, "x" * 4096, BET + "x"]:
                self.refused(card, bet, [-8])

    def test_faults_are_told_at_last(self):
        self.refused(DAY, FAULTY, [-6, 5, 4])
        self.refused(DAY, "", [-6, 1, 0])


class LargestTest(unittest.TestCase):
    def test_answers(self):
        for bet, answer in largest_bets():
            with self.subTest(bet=bet):
                self.assertEqual(judge(bet, big_day()), [0])
                self.assertEqual(means(bet, big_day()), answer)

    def test_largest_card(self):
        couples = "".join(f" couple {a} {a + 8}" for a in range(9, 17))
        pools = [f"pool abcdefghij{number} legs 6 from 11 take 400 break 1000 least 20000 unit 10000 none refund\n"
                 for number in range(10, 74)]
        card = "day abcdefghij12\n" + ("race 24" + couples + "\n") * 16 + "".join(pools)
        bet = "bet abcdefghij73 for 10000 on 1 / 2 / 3 / 4 / 5 / 16\n"
        self.assertEqual(means(bet, card), [0, 63, 0, 10000, 6, 1, 1, 1, 2, 1, 3, 1, 4, 1, 5, 1, 16])
        self.assertEqual(judge(bet.replace("16", "17"), card), [-6, 4, len(bet) - 3])

    def test_few_calls_within_one_another(self):
        texts = [(big_day(), bet) for bet, answer in largest_bets()]
        texts += [("\n" * 65536, BET), ("x " * 32768, BET), (DAY, "x " * 2047 + "\n"), (DAY, "," * 4095 + "\n"),
                  (DAY, "bet trio for 2 on 1" + " / 1" * 1019 + "\n")]
        deepest = []

        def watch(frame, event, arg):
            if event == "call":
                depth = 0
                while frame is not None:
                    depth += 1
                    frame = frame.f_back
                deepest.append(depth)

        base = len(inspect.stack())
        for card, bet in texts:
            arguments = codes(card), codes(bet)
            for call in CALLS:
                sys.setprofile(watch)
                try:
                    call(*arguments)
                finally:
                    sys.setprofile(None)
        self.assertLess(max(deepest) - base, 20)


class InterfaceTest(unittest.TestCase):
    def test_names_and_order_of_the_arguments(self):
        for call in [desk.judge, desk.means, desk.many, desk.cost, desk.list_of]:
            self.assertEqual(list(inspect.signature(call).parameters), ["card", "bet"])
        self.assertEqual(list(inspect.signature(desk.has).parameters), ["number", "card", "bet"])
        self.assertEqual(list(inspect.signature(desk.nth).parameters), ["i", "card", "bet"])
        self.assertEqual(list(inspect.signature(desk.both).parameters), ["card", "bet", "other"])
        self.assertEqual(desk.many(bet=codes(BET), card=codes(DAY)), [0, 1])
        self.assertEqual(desk.cost(bet=codes(BET), card=codes(DAY)), [0, 1])
        self.assertEqual(desk.has(bet=codes(BET), card=codes(DAY), number=0), [0, 1])
        self.assertEqual(desk.nth(bet=codes(BET), card=codes(DAY), i=0), [0, 0])
        self.assertEqual(desk.list_of(bet=codes(BET), card=codes(DAY)), [0, 0])
        self.assertEqual(desk.both(other=codes(BET), bet=codes(BET), card=codes(DAY)), [0, 1])
        self.assertEqual(desk.both(other=codes(BET), bet=codes(FAULTY), card=codes(DAY)), [-6])

    def test_nothing_is_printed(self):
        shown = io.StringIO()
        with contextlib.redirect_stdout(shown), contextlib.redirect_stderr(shown):
            for call in CALLS:
                for card, bet in [(DAY, BET), (DAY, FAULTY), ("x", BET), ("x" * 65537, BET)]:
                    call(codes(card), codes(bet))
        self.assertEqual(shown.getvalue(), "")


class PureTest(unittest.TestCase):
    def test_arguments_stay_as_they_were(self):
        for card, bet in [(DAY, BET), (DAY, FAULTY), (DAY, "bet trio for 2 key 1,2 with 3,5\n"), ("x", BET),
                          (big_day(), largest_bets()[1][0]), ("x" * 65537, BET), (DAY, "bet three for 1 box 1,2,3\nx")]:
            for call in CALLS:
                first, second = codes(card), codes(bet)
                call(first, second)
                self.assertEqual((first, second), (codes(card), codes(bet)))

    def test_arguments_are_not_changed_for_a_while_either(self):
        for card, bet in [(DAY, BET), (DAY, FAULTY), (DAY, "bet trio for 2 key 1,2 with 3,5\n"), ("x", BET),
                          (DAY, "bet three for 1 box 1,2,3\n"), (DAY, "bet double for 500 on 2,5 / 4\n"),
                          (big_day(), largest_bets()[1][0]), (DAY, "bet trio for 2 on 1,2 / 1,3 / 5\n")]:
            for call in CALLS:
                self.assertEqual(call(Still(codes(card)), Still(codes(bet))), call(codes(card), codes(bet)))
            answer = desk.both(Still(codes(card)), Still(codes(bet)), Still(codes(BET)))
            self.assertEqual(answer, desk.both(codes(card), codes(bet), codes(BET)))

    def test_a_second_call_answers_as_the_first(self):
        texts = [(DAY, BET), (DAY, FAULTY), ("x", BET), (big_day(), largest_bets()[1][0]), (DAY, "\n"),
                 (DAY, "bet trio for 2 key 1,2 with 3,5\n"), ("x" * 65537, BET)]
        for call in CALLS:
            answers = [call(codes(card), codes(bet)) for card, bet in texts]
            for (card, bet), answer in reversed(list(zip(texts, answers))):
                self.assertEqual(call(codes(card), codes(bet)), answer)

    def test_a_second_call_on_the_same_lists(self):
        for card, bet in [(DAY, BET), (DAY, FAULTY), (big_day(), largest_bets()[4][0]), ("x", BET)]:
            first, second = codes(card), codes(bet)
            for call in CALLS:
                self.assertEqual(call(first, second), call(first, second))
                self.assertEqual(call(first, second), call(codes(card), codes(bet)))

    def test_an_answer_is_the_caller_s_own(self):
        for card, bet in [(DAY, BET), (DAY, FAULTY), ("x", BET), ("x" * 65537, BET)]:
            for call in CALLS:
                answer = call(codes(card), codes(bet))
                kept = list(answer)
                answer.append(99)
                self.assertEqual(call(codes(card), codes(bet)), kept)


if __name__ == "__main__":
    unittest.main()
