from helper import GREATEST, CallTest, laid, last, run

LOOKS = ("best", "fewest", "most", "ways", "under")


class Looking(CallTest):
    def test_grams_told_are_at_most_10000(self):
        before = laid(5, 3, 4)
        for name in LOOKS:
            for grams in (10001, GREATEST):
                self.check_unchanged(before, (name, grams), [-22])

    def test_out_of_range_is_told_ahead_of_not_enough(self):
        for name in LOOKS:
            self.assertEqual(last(("begin", 5), (name, 10001)), [-22], name)

    def test_looking_changes_nothing(self):
        before = laid(5, 30, 10, 20, 5) + [("pack",)]
        expected = {
            "best": [30, 1, 1], "fewest": [1, 30], "most": [1, 10], "ways": [0], "under": [20],
        }
        for name in LOOKS:
            self.check_unchanged(before, (name, 25), expected[name], baskets=1)

    def test_grams_of_0(self):
        for pieces in ((), (7,), (3, 3, 9)):
            calls = laid(5, *pieces) + [(name, 0) for name in LOOKS]
            self.assertEqual(run(*calls)[-5:], [[0, 0, 0], [0, 0], [0, 0], [1], [0]])

    def test_no_pieces(self):
        calls = [("begin", 5)] + [(name, 1) for name in LOOKS] + [(name, 10000) for name in LOOKS]
        self.assertEqual(run(*calls)[1:], [[-33], [-33], [0, 0], [0], [0]] * 2)

    def test_grams_of_10000(self):
        calls = laid(5, *[1000] * 9) + [(name, 10000) for name in LOOKS]
        self.assertEqual(run(*calls)[-5:], [[-33], [-33], [9, 9000], [0], [9000]])

    def test_what_is_wanted_does_not_matter(self):
        for wanted in (1, 10000):
            calls = laid(wanted, 30, 10, 20) + [(name, 25) for name in LOOKS]
            self.assertEqual(run(*calls)[-5:], [[30, 1, 1], [1, 30], [1, 10], [0], [20]])

    def test_baskets_are_not_looked_at(self):
        calls = laid(10, 10, 30) + [("pack",), ("best", 31), ("fewest", 31), ("most", 100), ("ways", 10), ("under", 29)]
        self.assertEqual(run(*calls)[-5:], [[-33], [-33], [1, 30], [0], [0]])


class Best(CallTest):
    def test_weight_set_and_count(self):
        pieces = laid(5, 70, 45, 60, 90)
        for grams, answer in (
            (1, [45, 2, 1]), (45, [45, 2, 1]), (46, [60, 4, 1]), (91, [105, 6, 2]), (106, [115, 3, 2]),
            (265, [265, 15, 4]), (266, [-33]),
        ):
            self.assertEqual(last(*pieces, ("best", grams)), answer, grams)

    def test_not_enough_changes_nothing(self):
        self.check_unchanged(laid(5, 70, 45), ("best", 116), [-33])

    def test_of_alike_ones_the_fewest_pieces(self):
        self.assertEqual(last(*laid(5, 30, 30, 40, 100), ("best", 95)), [100, 8, 1])

    def test_then_the_least_number(self):
        self.assertEqual(last(*laid(5, 40, 50, 60, 50), ("best", 100)), [100, 5, 2])
        self.assertEqual(last(*laid(5, 60, 50, 50, 40), ("best", 100)), [100, 6, 2])
        self.assertEqual(last(*laid(5, 8, 8, 8), ("best", 16)), [16, 3, 2])

    def test_all_of_nine(self):
        self.assertEqual(last(*laid(5, *[1000] * 9), ("best", 8001)), [9000, 511, 9])


class Fewest(CallTest):
    def test_the_heaviest_ones(self):
        pieces = laid(5, 10, 40, 20, 30)
        for grams, answer in (
            (1, [1, 40]), (40, [1, 40]), (41, [2, 70]), (70, [2, 70]), (71, [3, 90]), (100, [4, 100]), (101, [-33]),
        ):
            self.assertEqual(last(*pieces, ("fewest", grams)), answer, grams)

    def test_not_enough_changes_nothing(self):
        self.check_unchanged(laid(5, 70, 45), ("fewest", 116), [-33])

    def test_alike_ones(self):
        self.assertEqual(last(*laid(5, 7, 7, 7), ("fewest", 14)), [2, 14])
        self.assertEqual(last(*laid(5, 7, 7, 7), ("fewest", 15)), [3, 21])


class Most(CallTest):
    def test_the_lightest_ones(self):
        pieces = laid(5, 40, 10, 30, 20)
        for grams, answer in (
            (9, [0, 0]), (10, [1, 10]), (29, [1, 10]), (30, [2, 30]), (59, [2, 30]), (60, [3, 60]),
            (99, [3, 60]), (100, [4, 100]), (10000, [4, 100]),
        ):
            self.assertEqual(last(*pieces, ("most", grams)), answer, grams)

    def test_alike_ones(self):
        self.assertEqual(last(*laid(5, 7, 7, 7), ("most", 14)), [2, 14])
        self.assertEqual(last(*laid(5, 7, 7, 7), ("most", 13)), [1, 7])


class Ways(CallTest):
    def test_how_many_sets(self):
        pieces = laid(5, 10, 20, 30, 40)
        for grams, count in ((10, 1), (15, 0), (30, 2), (50, 2), (60, 2), (100, 1), (101, 0)):
            self.assertEqual(last(*pieces, ("ways", grams)), [count], grams)

    def test_all_alike(self):
        pieces = laid(5, *[3] * 9)
        calls = pieces + [("ways", 3 * k) for k in range(10)]
        self.assertEqual(run(*calls)[-10:], [[1], [9], [36], [84], [126], [126], [84], [36], [9], [1]])


class Under(CallTest):
    def test_the_greatest_weight(self):
        pieces = laid(5, 70, 45, 60)
        for grams, weight in (
            (44, 0), (45, 45), (59, 45), (60, 60), (104, 70), (105, 105), (129, 115), (174, 130), (175, 175), (176, 175),
        ):
            self.assertEqual(last(*pieces, ("under", grams)), [weight], grams)
