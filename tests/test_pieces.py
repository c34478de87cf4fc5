from helper import GREATEST, CallTest, laid, last, packed_singly, run


class Piece(CallTest):
    def test_number_and_weight_of_all(self):
        self.check(
            (("begin", 500), [0]),
            (("piece", 120), [0, 120]),
            (("piece", 80), [1, 200]),
            (("piece", 120), [2, 320]),
        )

    def test_edges_of_grams(self):
        for grams, answer in ((1, [0, 1]), (1000, [0, 1000])):
            self.assertEqual(last(("begin", 5), ("piece", grams)), answer)
        for grams in (0, 1001, GREATEST):
            self.check_unchanged(laid(5, 3, 4), ("piece", grams), [-22])

    def test_nine_pieces_and_a_tenth(self):
        nine = laid(5, 1, 2, 3, 4, 5, 6, 7, 8, 1000)
        self.assertEqual(last(*nine), [8, 1036])
        self.check_unchanged(nine, ("piece", 1), [-28])

    def test_a_place_is_free_again_after_take_and_pack(self):
        nine = laid(5, 1, 2, 3, 4, 5, 6, 7, 8, 9)
        self.assertEqual(run(*nine, ("take", 0), ("piece", 7), ("piece", 7))[-2:], [[8, 51], [-28]])
        self.assertEqual(run(*nine, ("pack",), ("piece", 7), ("piece", 7))[-2:], [[8, 47], [-28]])

    def test_out_of_range_is_told_ahead_of_too_many(self):
        nine = laid(5, 1, 1, 1, 1, 1, 1, 1, 1, 1)
        for grams in (0, 1001):
            self.check_unchanged(nine, ("piece", grams), [-22])
            self.assertEqual(last(*packed_singly(60), ("piece", grams)), [-22])

    def test_sixty_that_came_and_one_more(self):
        self.assertEqual(last(*packed_singly(59), ("piece", 1)), [0, 1])
        self.assertEqual(last(*packed_singly(60), ("piece", 1)), [-28])

    def test_one_too_many_changes_nothing(self):
        calls = packed_singly(60) + [("piece", 1), ("piece", 5), ("ways", 0), ("take", 0), ("unpack",), ("take", 0)]
        self.assertEqual(run(*calls)[-6:], [[-28], [-28], [1], [-2], [1], [1]])

    def test_pieces_on_the_table_count_among_the_sixty(self):
        calls = packed_singly(55) + [("piece", 2)] * 6
        self.assertEqual(run(*calls)[-6:], [[0, 2], [1, 4], [2, 6], [3, 8], [4, 10], [-28]])

    def test_those_taken_away_are_not_counted(self):
        calls = [("begin", 1)] + [("piece", 3), ("take", 0)] * 61
        self.assertEqual(run(*calls)[1:], [[0, 3], [3]] * 61)
        calls = packed_singly(59) + [("piece", 3), ("take", 0), ("piece", 4), ("piece", 5)]
        self.assertEqual(run(*calls)[-4:], [[0, 3], [3], [0, 4], [-28]])

    def test_one_taken_out_of_a_basket_is_not_counted(self):
        calls = packed_singly(60) + [("unpack",), ("piece", 9), ("take", 0), ("piece", 9), ("piece", 9)]
        self.assertEqual(run(*calls)[-5:], [[1], [-28], [1], [0, 9], [-28]])

    def test_those_unpacked_do_not_come_anew(self):
        calls = packed_singly(59) + [("unpack",), ("pack",)] * 5 + [("unpack",), ("piece", 1), ("piece", 1)]
        self.assertEqual(run(*calls)[-3:], [[1], [1, 2], [-28]])


class Take(CallTest):
    def test_first_middle_and_last(self):
        pieces = laid(5, 10, 20, 30)
        for place, grams, left in ((0, 10, (20, 30)), (1, 20, (10, 30)), (2, 30, (10, 20))):
            calls = pieces + [("take", place), ("take", 0), ("take", 0), ("take", 0)]
            self.assertEqual(run(*calls)[-4:], [[grams], [left[0]], [left[1]], [-2]])

    def test_those_behind_are_numbered_one_less(self):
        calls = laid(5, 10, 20, 30, 40) + [("take", 1), ("take", 2), ("take", 1), ("take", 1), ("take", 0)]
        self.assertEqual(run(*calls)[-5:], [[20], [40], [30], [-2], [10]])

    def test_a_new_piece_lies_behind(self):
        calls = laid(5, 10, 20) + [("take", 0), ("piece", 30), ("take", 1)]
        self.assertEqual(run(*calls)[-3:], [[10], [1, 50], [30]])

    def test_no_such_piece(self):
        self.assertEqual(last(("begin", 5), ("take", 0)), [-2])
        for place in (3, 4, 9, GREATEST):
            self.check_unchanged(laid(5, 10, 20, 30), ("take", place), [-2])

    def test_pieces_in_baskets_are_not_there(self):
        before = laid(10, 10, 20) + [("packset", 1)]
        self.check_unchanged(before, ("take", 1), [-2], baskets=1)


class Want(CallTest):
    def test_what_was_wanted(self):
        self.check(
            (("begin", 500), [0]),
            (("want", 1), [500]),
            (("want", 10000), [1]),
            (("want", 10000), [10000]),
            (("want", 3), [10000]),
        )

    def test_out_of_range(self):
        for wanted in (0, 10001, GREATEST):
            self.check_unchanged(laid(5, 3, 4), ("want", wanted), [-22])

    def test_what_is_wanted_now_is_packed(self):
        calls = laid(500, 30, 40, 50) + [("pack",), ("want", 40), ("pack",)]
        self.assertEqual(run(*calls)[-3:], [[-33], [500], [0, 40, 2]])
