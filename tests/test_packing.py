from helper import GREATEST, CallTest, laid, last, run


class Pack(CallTest):
    def test_the_best_set_is_packed(self):
        self.check(
            (("begin", 100), [0]),
            (("piece", 70), [0, 70]),
            (("piece", 45), [1, 115]),
            (("piece", 60), [2, 175]),
            (("piece", 90), [3, 265]),
            (("pack",), [0, 105, 6]),
            (("pack",), [1, 160, 3]),
            (("pack",), [-33]),
        )

    def test_those_left_are_numbered_anew_as_they_lie(self):
        calls = laid(50, 10, 20, 30, 40, 15) + [("packset", 10), ("take", 1), ("take", 1), ("take", 0), ("take", 0)]
        self.assertEqual(run(*calls)[-5:], [[0, 60], [30], [15], [10], [-2]])

    def test_just_enough(self):
        self.assertEqual(last(*laid(100, 60, 40), ("pack",)), [0, 100, 3])
        self.check_unchanged(laid(101, 60, 40), ("pack",), [-33])

    def test_nothing_on_the_table(self):
        self.check_unchanged(laid(1), ("pack",), [-33])

    def test_baskets_do_not_weigh_with_the_table(self):
        before = laid(10, 10, 9) + [("pack",)]
        self.check_unchanged(before, ("pack",), [-33], baskets=1)

    def test_of_sets_as_heavy_the_one_with_the_fewest_pieces(self):
        self.assertEqual(last(*laid(100, 30, 30, 40, 100), ("pack",)), [0, 100, 8])

    def test_of_sets_as_heavy_of_as_many_pieces_the_least_number(self):
        self.assertEqual(last(*laid(100, 40, 50, 60, 50), ("pack",)), [0, 100, 5])
        self.assertEqual(last(*laid(100, 60, 50, 50, 40), ("pack",)), [0, 100, 6])

    def test_all_pieces_alike(self):
        calls = laid(15, 5, 5, 5, 5, 5, 5, 5, 5, 5) + [("pack",)] * 4
        self.assertEqual(run(*calls)[-4:], [[0, 15, 7], [1, 15, 7], [2, 15, 7], [-33]])

    def test_one_piece_heavier_than_what_is_wanted(self):
        self.assertEqual(last(*laid(50, 10, 800), ("pack",)), [0, 800, 2])
        self.assertEqual(last(*laid(1, 1000), ("pack",)), [0, 1000, 1])

    def test_nine_pieces_all_in_one_basket(self):
        calls = laid(9000, *[1000] * 9) + [("pack",), ("take", 0)]
        self.assertEqual(run(*calls)[-2:], [[0, 9000, 511], [-2]])


class Packset(CallTest):
    def test_the_set_is_packed(self):
        calls = laid(50, 10, 20, 30, 40) + [("packset", 11), ("packset", 1), ("want", 30), ("packset", 1)]
        self.assertEqual(run(*calls)[-4:], [[0, 70], [-12], [50], [1, 30]])

    def test_a_set_that_is_not_the_best(self):
        self.assertEqual(last(*laid(50, 50, 80, 90), ("packset", 7)), [0, 220])

    def test_just_enough(self):
        self.assertEqual(last(*laid(50, 20, 30), ("packset", 3)), [0, 50])
        self.check_unchanged(laid(51, 20, 30), ("packset", 3), [-12])

    def test_a_set_of_none_is_too_light(self):
        self.check_unchanged(laid(1), ("packset", 0), [-12])
        self.check_unchanged(laid(1, 5), ("packset", 0), [-12])

    def test_a_set_with_a_piece_that_there_is_not(self):
        before = laid(5, 100, 200, 300)
        for chosen in (8, 9, 15, 512, 4294967288, GREATEST):
            self.check_unchanged(before, ("packset", chosen), [-22])
        self.check_unchanged(laid(5), ("packset", 1), [-22])

    def test_out_of_range_is_told_ahead_of_too_light(self):
        before = laid(500, 100, 200)
        for chosen in (4, 5, GREATEST):
            self.check_unchanged(before, ("packset", chosen), [-22])

    def test_the_greatest_set_that_there_is(self):
        self.assertEqual(last(*laid(6, 1, 2, 3), ("packset", 7)), [0, 6])
        nine = laid(45, 1, 2, 3, 4, 5, 6, 7, 8, 9)
        self.assertEqual(last(*nine, ("packset", 511)), [0, 45])
        self.check_unchanged(nine, ("packset", 512), [-22])
        self.check_unchanged(nine, ("packset", 510), [-12])


class Unpack(CallTest):
    def test_pieces_lie_behind_the_others_in_their_order(self):
        calls = laid(50, 10, 20, 30, 40) + [("packset", 11), ("unpack",)] + [("take", 0)] * 5
        self.assertEqual(run(*calls)[-7:], [[0, 70], [3], [30], [10], [20], [40], [-2]])

    def test_the_last_basket_first(self):
        calls = laid(10, 10, 20, 30) + [("packset", 6), ("packset", 1), ("unpack",), ("unpack",), ("unpack",)]
        self.assertEqual(run(*calls, ("take", 0), ("take", 1))[-7:], [[0, 50], [1, 10], [1], [2], [-6], [10], [30]])

    def test_the_next_basket_has_its_number(self):
        calls = laid(10, 10, 20) + [("pack",), ("pack",), ("unpack",), ("pack",), ("unpack",), ("unpack",), ("pack",)]
        self.assertEqual(run(*calls)[-7:], [[0, 10, 1], [1, 20, 1], [1], [1, 20, 1], [1], [1], [0, 10, 2]])

    def test_no_baskets(self):
        self.check_unchanged(laid(5), ("unpack",), [-6])
        self.check_unchanged(laid(5, 6, 7), ("unpack",), [-6])

    def test_no_baskets_is_told_with_a_full_table(self):
        self.check_unchanged(laid(5, 1, 1, 1, 1, 1, 1, 1, 1, 1), ("unpack",), [-6])

    def test_onto_a_full_table(self):
        full = laid(5, 5, 6) + [("packset", 3)] + [("piece", 1)] * 9
        self.check_unchanged(full, ("unpack",), [-28], baskets=1)

    def test_just_nine_and_one_more(self):
        eight = laid(5, 5, 6) + [("packset", 3)] + [("piece", 1)] * 8
        self.check_unchanged(eight, ("unpack",), [-28], baskets=1)
        seven = laid(5, 5, 6) + [("packset", 3)] + [("piece", 1)] * 7
        self.assertEqual(run(*seven, ("unpack",), ("take", 7), ("take", 7), ("take", 7))[-4:], [[2], [5], [6], [-2]])

    def test_when_more_is_wanted(self):
        calls = laid(10, 4, 6) + [("pack",), ("want", 500), ("unpack",), ("pack",), ("packset", 3), ("want", 1)]
        self.assertEqual(run(*calls)[-6:], [[0, 10, 3], [10], [2], [-33], [-12], [500]])
