"""Every fault of a bet with its place. In these bets the sign ^ stands ahead of the faulty byte and is left out."""

import unittest

from tests.helper import DAY, big_day, cost, judge, many, means, numbers


class FaultTest(unittest.TestCase):
    def faulty(self, kind, marked, card=DAY):
        with self.subTest(kind=kind, bet=marked):
            place = marked.index("^")
            bet = marked.replace("^", "")
            self.assertEqual(judge(bet, card), [-6, kind, place])
            for call in [means, many, cost]:
                self.assertEqual(call(bet, card), [-6])

    def all_faulty(self, kind, bets):
        for marked in bets:
            self.faulty(kind, marked)

    def good(self, bet, card=DAY):
        with self.subTest(bet=bet):
            self.assertEqual(judge(bet, card), [0])
            for call in [means, many, cost]:
                self.assertEqual(call(bet, card)[0], 0)

    def test_1_line_not_ended(self):
        self.all_faulty(1, ["^", "bet^", "bet win for 1 on 1^", " ^", "\x00\xff^", "bet win for 1 on 1\r^"])

    def test_2_bytes(self):
        self.all_faulty(2, [
            "^\n", "^ \n", "^ bet win for 1 on 1\n", "bet win for 1 on 1^ \n", "bet ^ win for 1 on 1\n",
            "bet win for 1 on 1 ^ \n", "bet^\twin for 1 on 1\n", "^\x00\n", "be^\x1ft win\n", "be^\x7ft win\n",
            "bet win for 1 on 1^\xff\n", "bet win for 1 on 1^\r\n", "^\n\n", "^\nbet win for 1 on 1\n", "^  \n",
            "x ^  y\n", "x^\x80 \n"])

    def test_2_bytes_at_the_bounds_are_only_words(self):
        self.all_faulty(3, ["^!bet win for 1 on 1\n", "^~\n", "^}\n"])

    def test_2_only_the_line_is_looked_at(self):
        self.faulty(8, "bet win for 1 on 1\n^ \x00\xff\n")

    def test_3_words_in_front(self):
        self.all_faulty(3, [
            "^bets win for 1 on 1\n", "^Bet win for 1 on 1\n", "^win for 1 on 1\n", "^for\n", "bet win ^on 1\n",
            "bet win ^4 1 on 1\n", "bet win ^four 1 on 1\n", "bet win for 1 ^at 1\n", "bet win for 1 ^1\n",
            "bet win for 1 ^with 1\n", "bet win for 1 ^/ 1\n", "bet win for 1 ^ON 1\n"])

    def test_3_missing_words(self):
        self.all_faulty(3, [
            "bet^\n", "bet win^\n", "bet win for^\n", "bet win for 1^\n", "bet win for 1 on^\n",
            "bet trio for 2 box^\n", "bet trio for 2 key^\n", "bet trio for 2 key 1^\n",
            "bet trio for 2 key 1 with^\n"])

    def test_3_box_and_key_where_they_are_not(self):
        for way in ["box 1,2,3", "key 1 with 2,3"]:
            self.all_faulty(3, [f"bet win for 1 ^{way}\n", f"bet show for 5 ^{way}\n",
                                f"bet double for 100 ^{way}\n", f"bet five for 1 ^{way}\n"])

    def test_3_sets_too_few(self):
        self.all_faulty(3, [
            "bet trio for 2 on 1^\n", "bet trio for 2 on 1 / 2^\n", "bet trio for 2 on 1 / 2 /^\n",
            "bet quinella for 1 on 1^\n", "bet double for 100 on 1^\n", "bet five for 1 on 1 / 1 / 1 / 1^\n"])

    def test_3_sets_too_many(self):
        self.all_faulty(3, [
            "bet win for 1 on 1 ^/ 2\n", "bet show for 5 on 1 ^/ 2\n", "bet win for 1 on 1 ^/\n",
            "bet trio for 2 on 1 / 2 / 3 ^/ 5\n", "bet quinella for 1 on 1 / 2 ^/ 3\n",
            "bet double for 100 on 1 / 1 ^/ 1\n", "bet trio for 2 box 1,2,3 ^/ 1,2,3\n",
            "bet trio for 2 key 1 with 2,3 ^/ 1\n"])

    def test_3_something_else_behind_a_set(self):
        self.all_faulty(3, [
            "bet win for 1 on 1 ^2\n", "bet win for 1 on 1 ^on\n", "bet trio for 2 on 1 ^2 3\n",
            "bet trio for 2 on 1 ^with 2\n", "bet trio for 2 on 1 ^// 2 / 3\n", "bet trio for 2 on 1 ^? 2 / 3\n",
            "bet trio for 2 on 1 ^% 2 / 3\n", "bet trio for 2 on 1 ^. 2 / 3\n", "bet trio for 2 on 1 ^0 2 / 3\n",
            "bet trio for 2 box 1,2,3 ^5\n",
            "bet trio for 2 box 1,2,3 ^with 5\n", "bet trio for 2 key 1 ^/ 2,3\n", "bet trio for 2 key 1 ^2,3\n",
            "bet trio for 2 key 1 with 2,3 ^with 5\n", "bet trio for 2 key 1 with 2,3 ^,5\n"])

    def test_4_stake(self):
        self.good("bet win for 1 on 1\n")
        self.good("bet win for 1000000 on 1\n")
        self.good("bet show for 5 on 1\n")
        self.good("bet show for 1000000 on 1\n")
        self.good("bet double for 300 on 1 / 1\n")
        self.all_faulty(4, [
            "bet win for ^0 on 1\n", "bet win for ^1000001 on 1\n", "bet win for ^01 on 1\n", "bet win for ^-1 on 1\n",
            "bet win for ^+1 on 1\n", "bet win for ^1.0 on 1\n", "bet win for ^1,2 on 1\n", "bet win for ^x on 1\n",
            "bet win for ^on 1\n", "bet win for ^for 1 on 1\n", "bet win for ^1x on 1\n", "bet win for ^/ on 1\n",
            "bet win for ^00 on 1\n", "bet win for ^10000000 on 1\n", "bet win for ^4294967297 on 1\n",
            "bet show for ^1 on 1\n", "bet show for ^4 on 1\n", "bet show for ^6 on 1\n",
            "bet show for ^999999 on 1\n", "bet show for ^1000005 on 1\n", "bet double for ^150 on 1 / 1\n"])

    def test_4_sets(self):
        for word in ["0", "7", "-1", "x", "/", "on", "01", "1,", ",1", ",", "1,,2", "2,1", "1,1", "1,2,2", "1,7",
                     "0,1", "1,02", "1;2", "1-3", "1.", "?", "1,x", "4294967297"]:
            self.faulty(4, f"bet win for 1 on ^{word}\n")
            self.faulty(4, f"bet three for 1 on 1 / ^{word} / 2\n")
            self.faulty(4, f"bet three for 1 on 1 / 2 / ^{word}\n")
            self.faulty(4, f"bet three for 1 box ^{word}\n")
            self.faulty(4, f"bet three for 1 key ^{word} with 1,2\n")
            self.faulty(4, f"bet three for 1 key 1 with ^{word}\n")

    def test_4_numbers_that_are_no_interests(self):
        self.good("bet show for 5 on 1,2,3,5\n")
        self.all_faulty(4, [
            "bet show for 5 on ^4\n", "bet show for 5 on ^1,4\n", "bet show for 5 on ^6\n",
            "bet exacta for 10 on ^2 / 1\n", "bet exacta for 10 on 1 / ^3\n", "bet quinella for 1 box ^1,2,3,4\n",
            "bet quinella for 1 key ^4 with 1\n", "bet quinella for 1 key 1 with ^4\n"])

    def test_4_each_leg_has_its_own_interests(self):
        self.good("bet double for 100 on 5 / 4\n")
        self.good("bet five for 1 on 6 / 5 / 4 / 24 / 2\n")
        self.all_faulty(4, [
            "bet double for 100 on ^4 / 4\n", "bet double for 100 on 5 / ^5\n", "bet double for 100 on 5 / ^2\n",
            "bet five for 1 on ^7 / 5 / 4 / 24 / 2\n", "bet five for 1 on 6 / ^6 / 4 / 24 / 2\n",
            "bet five for 1 on 6 / 5 / ^5 / 24 / 2\n", "bet five for 1 on 6 / 5 / 4 / ^25 / 2\n",
            "bet five for 1 on 6 / 5 / 4 / 24 / ^3\n"])

    def test_4_box_with_too_few(self):
        self.good("bet trio for 2 box 1,2,3\n")
        self.good("bet quinella for 1 box 1,2\n")
        self.good("bet exacta for 10 box 1,4\n")
        self.all_faulty(4, [
            "bet trio for 2 box ^1,2\n", "bet trio for 2 box ^1\n", "bet quinella for 1 box ^1\n",
            "bet three for 1 box ^1,2\n", "bet four for 1 box ^1,2,3\n", "bet exacta for 10 box ^1\n"])

    def test_4_key(self):
        self.good("bet trio for 2 key 1,2 with 3\n")
        self.good("bet trio for 2 key 1 with 2,3\n")
        self.good("bet four for 1 key 1,2,3 with 4\n")
        self.good("bet quinella for 1 key 5 with 1\n")
        self.all_faulty(4, [
            "bet trio for 2 key ^1,2,3 with 5\n", "bet quinella for 1 key ^1,2 with 3\n",
            "bet four for 1 key ^1,2,3,4 with 5\n", "bet trio for 2 key 1 with ^1,2\n",
            "bet trio for 2 key 2 with ^1,2,3\n", "bet trio for 2 key 1,3 with ^2,3\n",
            "bet trio for 2 key 1 with ^2\n", "bet four for 1 key 1 with ^2,3\n", "bet four for 1 key 1,2 with ^3\n",
            "bet quinella for 1 key 1 with ^1\n"])

    def test_5_no_such_pool(self):
        self.all_faulty(5, [
            "bet ^lose for 1 on 1\n", "bet ^wi for 1 on 1\n", "bet ^wins for 1 on 1\n", "bet ^WIN for 1 on 1\n",
            "bet ^for 1 on 1\n", "bet ^monday for 1 on 1\n", "bet ^0 for 1 on 1\n", "bet ^/\n", "bet ^?\n",
            "bet ^abcdefghijklmnopqrstuvwxyz for 1 on 1\n", "bet ^win, for 1 on 1\n"])

    def test_5_a_card_without_pools(self):
        self.faulty(5, "bet ^win for 1 on 1\n", "day d\nrace 2\n")

    def test_6_no_combination(self):
        self.all_faulty(6, [
            "bet trio for 2 ^on 1 / 1 / 2\n", "bet trio for 2 ^on 1,2 / 1,2 / 1,2\n",
            "bet trio for 2 ^on 5 / 1,2,3 / 5\n",
            "bet exacta for 10 ^on 4 / 4\n", "bet quinella for 1 ^on 2 / 2\n", "bet three for 1 ^on 1,2 / 1,2 / 1,2\n",
            "bet three for 1 ^on 6 / 1,2,3 / 6\n", "bet four for 1 ^on 1,2,3 / 1,2,3 / 1,2,3 / 1,2,3\n"])
        self.good("bet trio for 2 on 1,2 / 1,2 / 1,3\n")
        self.good("bet three for 1 on 1,2 / 1,2 / 2,3\n")
        self.good("bet double for 100 on 1 / 1\n")

    def test_7_bound_of_the_cost(self):
        # 7,282 rows at 294,903 cost 2^31 - 2; 2^31 - 1 is a prime and no bet's cost.
        sets = f"{numbers(1, 23)} / {numbers(1, 24)} / {numbers(10, 24)}"
        self.good(f"bet o3 for 294903 on {sets}\n", big_day())
        self.faulty(7, f"bet o3 for ^294904 on {sets}\n", big_day())
        # 8 to the 6th combinations at 8,192 cost 2^31.
        eights = " / ".join([numbers(17, 24)] * 6)
        self.good(f"bet l6 for 8191 on {eights}\n", big_day())
        self.faulty(7, f"bet l6 for ^8192 on {eights}\n", big_day())

    def test_7_in_each_kind_and_way(self):
        everything = numbers(1, 24)
        for pool, words, count in [
                ("l6", "on " + " / ".join([everything] * 6), 24 ** 6),
                ("o4", "on " + " / ".join([everything] * 4), 24 * 23 * 22 * 21),
                ("o4", "box " + everything, 24 * 23 * 22 * 21),
                ("o4", "key 1 with " + numbers(2, 24), 24 * 23 * 22 * 21 // 6),
                ("o4", "key 1,9 with " + numbers(10, 24), 24 * (15 * 14 // 2)),
                ("o3", "box " + everything, 24 * 23 * 22),
                ("o3", "on " + " / ".join([everything] * 3), 24 * 23 * 22)]:
            most = (2 ** 31 - 1) // count
            self.good(f"bet {pool} for {most} {words}\n", big_day())
            self.faulty(7, f"bet {pool} for ^{most + 1} {words}\n", big_day())

    def test_7_is_never_met_in_small_pools(self):
        everything = numbers(1, 24)
        self.good(f"bet a3 for 1000000 box {everything}\n", big_day())
        self.good(f"bet a3 for 1000000 on {everything} / {everything} / {everything}\n", big_day())
        self.good(f"bet p4 for 1000000 on {everything}\n", big_day())

    def test_8_bytes_behind_the_line(self):
        self.all_faulty(8, [
            "bet win for 1 on 1\n^\n", "bet win for 1 on 1\n^ ", "bet win for 1 on 1\n^\x00",
            "bet win for 1 on 1\n^bet win for 1 on 1\n", "bet trio for 2 box 1,2,3\n^x"])

    def test_which_of_two_faults_is_met_first(self):
        self.faulty(1, " \x00 lose^")
        self.faulty(2, "bets lose^\x00\n")
        self.faulty(2, "bets lose ^ \nx")
        self.faulty(2, "bet lose for 0 on 9^ \n")
        self.faulty(2, "x ^ \x00\n")
        self.faulty(2, "x^\x00  y\n")
        self.faulty(3, "^bets lose for 0 on 9\n")
        self.faulty(5, "bet ^lose 4 0 on 9\n")
        self.faulty(5, "bet ^lose\n")
        self.faulty(3, "bet win ^four 0 on 9\n")
        self.faulty(4, "bet win for ^0 at 9\n")
        self.faulty(4, "bet win for ^0\n")
        self.faulty(3, "bet win for 1 ^box 9\n")
        self.faulty(4, "bet trio for 2 on ^9 x\n")
        self.faulty(3, "bet trio for 2 on 1 ^x 9\n")
        self.faulty(4, "bet win for 1 on ^9 / 1\n")
        self.faulty(4, "bet trio for 2 on 1 / 2 / ^9 / 9\n")
        self.faulty(3, "bet trio for 2 on 1 / 1 / 1 ^/ 9\n")
        self.faulty(4, "bet trio for 2 box ^1,2 x\n")
        self.faulty(4, "bet trio for 2 key ^1,2,3 x 9\n")
        self.faulty(4, "bet trio for 2 key ^1,2,3\n")
        self.faulty(4, "bet trio for 2 key 1 with ^1,2 x\n")
        self.faulty(4, "bet trio for 2 key 1 with ^2 x\n")
        self.faulty(3, "bet trio for 2 on 1 / 1^\n")
        self.faulty(6, "bet trio for 2 ^on 1 / 1 / 1\nx")
        self.faulty(4, "bet trio for 2 on 1 / 1 / ^9\nx")
        self.faulty(7, f"bet o4 for ^1000000 box {numbers(1, 24)}\nx", big_day())
        self.faulty(3, f"bet o4 for 1000000 box {numbers(1, 24)} ^x\n", big_day())


if __name__ == "__main__":
    unittest.main()
