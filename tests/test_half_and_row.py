from helper import CallTest, laid, last, run


class Half(CallTest):
    def test_what_each_half_weighs(self):
        for pieces, answer in (
            ((), [0, 0]),
            ((7,), [0, 7]),
            ((7, 7), [7, 7]),
            ((3, 9), [3, 9]),
            ((9, 3), [3, 9]),
            ((10, 20, 30), [30, 30]),
            ((10, 20, 31), [30, 31]),
            ((10, 20, 45), [30, 45]),
            ((1000, 1, 2, 3), [6, 1000]),
            ((8, 7, 6, 5, 4), [15, 15]),
        ):
            self.assertEqual(last(*laid(5, *pieces), ("half",)), answer, pieces)

    def test_not_by_giving_each_piece_to_the_lighter(self):
        self.assertEqual(last(*laid(5, 8, 6, 5, 4, 3), ("half",)), [13, 13])

    def test_odd_by_one(self):
        self.assertEqual(last(*laid(5, 1), ("half",)), [0, 1])
        self.assertEqual(last(*laid(5, 4, 5), ("half",)), [4, 5])

    def test_nine_pieces(self):
        self.assertEqual(last(*laid(5, *[1000] * 9), ("half",)), [4000, 5000])
        self.assertEqual(last(*laid(5, 1, 2, 3, 4, 5, 6, 7, 8, 9), ("half",)), [22, 23])
        self.assertEqual(last(*laid(5, 1, 2, 4, 8, 16, 32, 64, 128, 256), ("half",)), [255, 256])

    def test_what_is_wanted_and_baskets_do_not_matter(self):
        for wanted in (1, 10000):
            self.assertEqual(last(*laid(wanted, 10, 20), ("half",)), [10, 20])
        self.assertEqual(last(*laid(50, 50, 10, 20), ("pack",), ("half",)), [10, 20])

    def test_it_changes_nothing(self):
        before = laid(5, 30, 10, 20, 5) + [("pack",)]
        self.check_unchanged(before, ("half",), [30, 30], baskets=1)
        self.check_unchanged(laid(5), ("half",), [0, 0])


class Row(CallTest):
    def test_no_pieces(self):
        self.check_unchanged(laid(1), ("row",), [0])

    def test_too_little_and_just_enough(self):
        self.check_unchanged(laid(101, 60, 40), ("row",), [0])
        self.check_unchanged(laid(100, 60, 40), ("row",), [1, 100])
        self.check_unchanged(laid(99, 60, 40), ("row",), [1, 100])

    def test_one_basket_after_another(self):
        self.assertEqual(last(*laid(100, 70, 45, 60, 90), ("row",)), [2, 105, 160])
        self.assertEqual(last(*laid(10, 10, 11, 12, 9), ("row",)), [3, 10, 11, 12])
        self.assertEqual(last(*laid(10, 12, 11, 10, 9), ("row",)), [3, 10, 11, 12])

    def test_the_best_set_of_what_is_left_each_time(self):
        # 5 + 5 goes first, and then 9 and 9 must go together.
        self.assertEqual(last(*laid(10, 9, 5, 9, 5), ("row",)), [2, 10, 18])

    def test_of_sets_as_heavy_the_fewest_pieces_go_first(self):
        # 6 and 4 go, so that 3 and 8 can follow; with 6, 1 and 3 gone it would be 4 and 8.
        self.assertEqual(last(*laid(10, 6, 4, 1, 3, 8), ("row",)), [2, 10, 11])
        self.assertEqual(last(*laid(10, 6, 1, 3, 4, 8), ("row",)), [2, 10, 11])

    def test_two_sets_as_heavy_of_as_many_pieces(self):
        # 10 goes with the two behind it, 1 and 9 or 4 and 6, as that set has the lesser number.
        self.assertEqual(last(*laid(20, 10, 1, 9, 4, 6, 17), ("row",)), [2, 20, 21])
        self.assertEqual(last(*laid(20, 10, 4, 6, 1, 9, 17), ("row",)), [2, 20, 26])

    def test_one_piece_heavier_than_what_is_wanted(self):
        self.assertEqual(last(*laid(50, 800), ("row",)), [1, 800])
        self.assertEqual(last(*laid(50, 10, 800), ("row",)), [1, 800])
        self.assertEqual(last(*laid(1, 1000, 2, 30), ("row",)), [3, 2, 30, 1000])

    def test_all_pieces_alike(self):
        self.assertEqual(last(*laid(15, *[5] * 9), ("row",)), [3, 15, 15, 15])
        self.assertEqual(last(*laid(11, *[5] * 8), ("row",)), [2, 15, 15])
        self.assertEqual(last(*laid(1, *[1000] * 9), ("row",)), [9] + [1000] * 9)

    def test_what_is_wanted_now(self):
        calls = laid(100, 70, 45, 60) + [("want", 50), ("row",), ("want", 10000), ("row",)]
        self.assertEqual(run(*calls)[-4:], [[100], [2, 60, 70], [50], [0]])

    def test_baskets_are_not_in_it(self):
        before = laid(10, 10, 30, 20) + [("pack",)]
        self.check_unchanged(before, ("row",), [2, 20, 30], baskets=1)

    def test_it_is_what_packing_does(self):
        before = laid(40, 13, 29, 41, 8, 17, 35, 22, 11, 40)
        found = run(*before, ("row",), *[("pack",)] * 9)[-10:]
        packed = [answer[1] for answer in found[1:] if answer != [-33]]
        self.assertEqual(found[0], [len(packed)] + packed)
        self.check_unchanged(before, ("row",), found[0])
