"""What is a card and what is none, as each call tells it."""

import unittest

from tests.helper import DAY, cost, judge, many, means

RACES = "day d\nrace 6\nrace 3 couple 1 2\nrace 4\n"
POOL = "pool p order 2 from 1 take 0 break 1 least 0 unit 1 none refund\n"


def pool(name="p", kind="order 2", race="1", take="0", brk="1", least="0", unit="1", none="refund"):
    return f"pool {name} {kind} from {race} take {take} break {brk} least {least} unit {unit} none {none}\n"


def race(text):
    return "day d\n" + text + "\n"


class CardTest(unittest.TestCase):
    def good(self, card):
        with self.subTest(card=card):
            self.assertEqual(judge("", card), [-6, 1, 0])
            for call in [means, many, cost]:
                self.assertEqual(call("", card), [-6])

    def bad(self, card):
        with self.subTest(card=card):
            self.assertEqual(judge("", card), [-8])
            for call in [means, many, cost]:
                self.assertEqual(call("", card), [-8])

    def test_ordinary_cards(self):
        self.good(DAY)
        self.good(RACES)
        self.good(RACES + POOL)

    def test_form_of_the_text(self):
        for card in ["", "\n", "day d", "day d\n", "race 6\n", POOL, "\n" + RACES, RACES + "\n", RACES[:-1],
                     (RACES + POOL)[:-1], RACES + POOL + "x", RACES + POOL + " ", RACES + "\n" + POOL,
                     RACES + "day d\n", RACES + POOL + "race 6\n", RACES + POOL.upper(), RACES + "x\n",
                     (RACES + POOL).replace("\n", "\r\n"), RACES[:-1] + "x", RACES[:-1] + " ", RACES + POOL + "\x00"]:
            self.bad(card)

    def test_one_blank_between_words(self):
        for card in [RACES, RACES + POOL]:
            for place, sign in enumerate(card):
                if sign == " ":
                    self.bad(card[:place] + card[place + 1:])
                    self.bad(card[:place] + " " + card[place:])
                    self.bad(card[:place] + "\t" + card[place + 1:])
                if sign == "\n":
                    self.bad(card[:place] + " " + card[place:])
                    self.bad(card[:place + 1] + " " + card[place + 1:])

    def test_every_fixed_word(self):
        for word in ["day", "race 6", "pool", "order", "from", "take", "break", "least", "unit", "none", "refund"]:
            changed = (RACES + POOL).replace(word, "x" + word)
            self.bad(changed)
        self.bad((RACES + POOL).replace("couple", "coupled"))

    def test_first_line(self):
        rest = "race 2\n"
        self.good("day a\n" + rest)
        self.good("day z9\n" + rest)
        self.good("day abcdefghij12\n" + rest)
        for line in ["day abcdefghij123", "day", "day ", "day 1a", "day A", "day a-b", "day a b", "night a", "day a?",
                     "day aB", "day \xe9"]:
            self.bad(line + "\n" + rest)

    def test_names_of_pools(self):
        for name in ["a", "z", "a0", "abcdefghij12", "for", "pool", "d"]:
            self.good(RACES + pool(name=name))
        for name in ["", "0a", "A", "abcdefghij123", "a_b", "a?", "a,", "{a", "a`", "a:", "a/"]:
            self.bad(RACES + pool(name=name))
        self.good(RACES + pool(name="p") + pool(name="q"))
        self.bad(RACES + pool(name="p") + pool(name="p", kind="any 2"))
        self.bad(RACES + pool(name="p") + pool(name="q") + pool(name="p"))

    def test_how_many_races(self):
        self.good("day d\n" + "race 2\n" * 16)
        self.bad("day d\n" + "race 2\n" * 17)
        self.bad("day d\n" + POOL)

    def test_how_many_pools(self):
        lines = [pool(name=f"p{number}") for number in range(65)]
        self.good(RACES + "".join(lines[:64]))
        self.bad(RACES + "".join(lines))
        self.good("day d\n" + "race 2\n" * 16 + "".join(lines[:64]))
        self.bad("day d\n" + "race 2\n" * 15 + "".join(lines))

    def test_runners(self):
        for runners in ["2", "24"]:
            self.good(race("race " + runners))
        for runners in ["0", "1", "25", "02", "-2", "2x", "", "1" * 5000, "4294967298"]:
            self.bad(race("race " + runners))
        self.bad(race("race"))
        self.bad(race("race 2 3"))

    def test_couples(self):
        for line in ["race 2 couple 1 2", "race 24 couple 23 24", "race 6 couple 1 2 couple 1 3 couple 4 5",
                     "race 6 couple 2 4 couple 1 3", "race 6 couple 3 4 couple 1 2"]:
            self.good(race(line))
        for line in ["race 6 couple 2 2", "race 6 couple 3 2", "race 6 couple 0 2", "race 6 couple 5 7",
                     "race 6 couple 01 2", "race 6 couple 1 02", "race 6 couple 1 x", "race 6 couple x 2",
                     "race 6 couple 1 2 couple 2 3", "race 6 couple 2 3 couple 1 2", "race 6 couple 1 2 couple 1 2",
                     "race 6 couple 1 3 couple 2 3", "race 6 couple", "race 6 couple 1", "race 6 couple 1 2 couple",
                     "race 6 couple 1 2 3", "race 6 1 2"]:
            self.bad(race(line))

    def test_how_many_couples(self):
        line = "race 24" + "".join(f" couple 1 {number}" for number in range(2, 10))
        self.good(race(line))
        self.bad(race(line + " couple 1 10"))

    def test_sizes_of_each_kind(self):
        for kind, least, most in [("place", 1, 4), ("order", 2, 4), ("any", 2, 3), ("legs", 2, 6)]:
            races = "day d\n" + "race 24\n" * 8
            for size in range(least, most + 1):
                self.good(races + pool(kind=f"{kind} {size}"))
            self.bad(races + pool(kind=f"{kind} {least - 1}"))
            self.bad(races + pool(kind=f"{kind} {most + 1}"))
            self.bad(races + pool(kind=f"{kind} 0{least}"))
            self.bad(races + pool(kind=kind))
        self.bad(RACES + pool(kind="win 2"))

    def test_race_of_a_pool(self):
        for number in ["1", "2", "3"]:
            self.good(RACES + pool(kind="order 2", race=number))
        for number in ["0", "4", "01", "x"]:
            for kind in ["order 2", "place 1", "any 2", "legs 2"]:
                self.bad(RACES + pool(kind=kind, race=number))
        self.good(RACES + pool(kind="legs 2", race="2"))
        self.bad(RACES + pool(kind="legs 2", race="3"))
        self.good(RACES + pool(kind="legs 3", race="1"))
        self.bad(RACES + pool(kind="legs 3", race="2"))

    def test_enough_interests(self):
        # Race 2 has three runners and two interests.
        for kind in ["place", "order", "any"]:
            self.good(RACES + pool(kind=kind + " 2", race="2"))
            self.bad(RACES + pool(kind=kind + " 3", race="2"))
            self.good(RACES + pool(kind=kind + " 3", race="3"))
        self.good("day d\nrace 4\n" + pool(kind="place 4") + pool(name="q", kind="order 4"))
        self.bad("day d\nrace 3\n" + pool(kind="place 4"))
        self.bad("day d\nrace 3\n" + pool(kind="order 4"))
        # A leg needs no more than one interest, whatever k is.
        lone = "race 2 couple 1 2\n"
        self.good("day d\n" + lone * 6 + pool(kind="legs 6"))
        self.good("day d\n" + lone + pool(kind="place 1"))

    def test_terms(self):
        for terms in [{"take": "0"}, {"take": "400"}, {"brk": "1"}, {"brk": "1000"}, {"unit": "1"},
                      {"unit": "10000"}, {"least": "1"}, {"least": "2"}, {"unit": "50", "least": "0"},
                      {"unit": "50", "least": "50"}, {"unit": "50", "least": "77"}, {"unit": "50", "least": "100"},
                      {"unit": "10000", "least": "20000"}]:
            self.good(RACES + pool(**terms))
        for terms in [{"take": "401"}, {"take": "00"}, {"take": "x"}, {"take": "-1"}, {"brk": "0"}, {"brk": "1001"},
                      {"brk": "01"}, {"unit": "0"}, {"unit": "10001"}, {"unit": "010"}, {"least": "3"},
                      {"unit": "50", "least": "49"}, {"unit": "50", "least": "101"}, {"unit": "50", "least": "1"},
                      {"unit": "10000", "least": "20001"}, {"least": "00"}, {"least": "x"}, {"take": "9" * 5000},
                      {"unit": "9" * 5000, "least": "9" * 5000}]:
            self.bad(RACES + pool(**terms))

    def test_none(self):
        for kind in ["place 1", "order 2", "any 2", "legs 2"]:
            self.good(RACES + pool(kind=kind, none="refund"))
            self.good(RACES + pool(kind=kind, none="carry"))
            self.bad(RACES + pool(kind=kind, none="none"))
            if kind == "place 1":
                self.bad(RACES + pool(kind=kind, none="fewer"))
            else:
                self.good(RACES + pool(kind=kind, none="fewer"))
        self.bad(RACES + POOL[:-1] + " refund\n")


if __name__ == "__main__":
    unittest.main()
