from helper import GREATEST, CallTest, laid, last, packed_singly, run


class Weigh(CallTest):
    def test_weight_and_count(self):
        pieces = laid(5, 10, 20, 40)
        for chosen, answer in (
            (0, [0, 0]), (1, [10, 1]), (2, [20, 1]), (3, [30, 2]), (4, [40, 1]), (5, [50, 2]), (6, [60, 2]),
            (7, [70, 3]),
        ):
            self.assertEqual(last(*pieces, ("weigh", chosen)), answer, chosen)

    def test_no_pieces(self):
        self.check_unchanged(laid(5), ("weigh", 0), [0, 0])
        self.check_unchanged(laid(5), ("weigh", 1), [-22])

    def test_all_of_nine(self):
        nine = laid(5, 1, 2, 3, 4, 5, 6, 7, 8, 1000)
        self.check_unchanged(nine, ("weigh", 511), [1036, 9])
        self.check_unchanged(nine, ("weigh", 256), [1000, 1])
        self.check_unchanged(nine, ("weigh", 512), [-22])

    def test_a_set_with_a_piece_that_there_is_not(self):
        for chosen in (8, 9, 15, 512, 2 ** 31, 4294967288, GREATEST):
            self.check_unchanged(laid(5, 10, 20, 40), ("weigh", chosen), [-22])

    def test_after_a_pack_they_are_numbered_anew(self):
        before = laid(20, 10, 20, 40) + [("pack",)]
        self.check_unchanged(before, ("weigh", 2), [40, 1], baskets=1)
        self.check_unchanged(before, ("weigh", 4), [-22], baskets=1)

    def test_a_set_lighter_than_wanted(self):
        self.assertEqual(last(*laid(10000, 10, 20), ("weigh", 3)), [30, 2])


class Could(CallTest):
    def test_edges(self):
        before = laid(5, 10, 20)
        for grams, answer in (
            (0, 1), (1, 1), (29, 1), (30, 1), (31, 0), (10000, 0), (10001, -22), (GREATEST, -22),
        ):
            self.check_unchanged(before, ("could", grams), [answer])

    def test_no_pieces(self):
        for grams, answer in ((0, 1), (1, 0), (10000, 0), (10001, -22)):
            self.check_unchanged(laid(5), ("could", grams), [answer])

    def test_pieces_in_baskets_are_not_on_the_table(self):
        before = laid(10, 10, 30) + [("pack",)]
        self.check_unchanged(before, ("could", 30), [1], baskets=1)
        self.check_unchanged(before, ("could", 31), [0], baskets=1)

    def test_what_is_wanted_does_not_matter(self):
        for wanted in (1, 10000):
            self.assertEqual(run(*laid(wanted, 10, 20), ("could", 30), ("could", 31))[-2:], [[1], [0]])


class Need(CallTest):
    def test_how_many_more(self):
        before = laid(100, 30, 25)
        for grams, answer in (
            (1, 45), (2, 23), (9, 5), (10, 5), (11, 5), (12, 4), (44, 2), (45, 1), (46, 1), (1000, 1),
        ):
            self.check_unchanged(before, ("need", grams), [answer])

    def test_out_of_range(self):
        for grams in (0, 1001, 10000, 10001, GREATEST):
            self.check_unchanged(laid(100, 30), ("need", grams), [-22])

    def test_out_of_range_is_told_where_none_is_needed_or_it_is_never_enough(self):
        for grams in (0, 1001):
            self.assertEqual(last(*laid(10, 30), ("need", grams)), [-22])
            self.assertEqual(last(*laid(10000), ("need", grams)), [-22])

    def test_none_needed(self):
        for pieces in ((100,), (60, 40), (101,), (1000, 1000)):
            for grams in (1, 7, 1000):
                self.assertEqual(last(*laid(100, *pieces), ("need", grams)), [0], pieces)

    def test_just_so_many(self):
        self.assertEqual(last(*laid(100, 40), ("need", 20)), [3])
        self.assertEqual(last(*laid(101, 40), ("need", 20)), [4])

    def test_a_thousand_and_one_more(self):
        self.assertEqual(last(*laid(1000), ("need", 1)), [1000])
        self.check_unchanged(laid(1001), ("need", 1), [-33])
        self.assertEqual(last(*laid(1001, 1), ("need", 1)), [1000])
        self.assertEqual(last(*laid(10000), ("need", 10)), [1000])
        self.check_unchanged(laid(10000), ("need", 9), [-33])
        self.assertEqual(last(*laid(10000, 1000), ("need", 9)), [1000])
        self.check_unchanged(laid(10000, 999), ("need", 9), [-33])
        self.assertEqual(last(*laid(2000), ("need", 2)), [1000])
        self.assertEqual(last(*laid(1999), ("need", 2)), [1000])
        self.check_unchanged(laid(2001), ("need", 2), [-33])

    def test_it_is_told_beyond_what_the_table_holds(self):
        before = laid(9010, *[1000] * 9)
        self.check_unchanged(before, ("need", 1), [10])
        self.assertEqual(last(*packed_singly(60), ("need", 1)), [1])

    def test_what_is_wanted_now(self):
        calls = laid(100, 30) + [("need", 10), ("want", 30), ("need", 10), ("want", 31), ("need", 10)]
        self.assertEqual(run(*calls)[-5:], [[7], [100], [0], [30], [1]])

    def test_pieces_in_baskets_do_not_count(self):
        before = laid(30, 30, 20) + [("pack",)]
        self.check_unchanged(before, ("need", 5), [2], baskets=1)


class Heaviest(CallTest):
    def test_which_and_its_grams(self):
        self.assertEqual(last(*laid(5, 7), ("heaviest",)), [0, 7])
        self.assertEqual(last(*laid(5, 10, 40, 20), ("heaviest",)), [1, 40])
        self.assertEqual(last(*laid(5, 10, 20, 1000), ("heaviest",)), [2, 1000])

    def test_of_alike_ones_the_first(self):
        self.assertEqual(last(*laid(5, 10, 40, 20, 40), ("heaviest",)), [1, 40])
        self.assertEqual(last(*laid(5, *[3] * 9), ("heaviest",)), [0, 3])

    def test_no_pieces(self):
        self.check_unchanged(laid(5), ("heaviest",), [-6])
        self.check_unchanged(laid(5, 5) + [("pack",)], ("heaviest",), [-6], baskets=1)

    def test_it_changes_nothing(self):
        before = laid(5, 5, 9, 7) + [("pack",)]
        self.check_unchanged(before, ("heaviest",), [0, 9], baskets=1)


class Between(CallTest):
    def test_how_many_and_their_numbers(self):
        before = laid(5, 30, 10, 20, 40, 20)
        for lowest, highest, answer in (
            (0, 9, [0]), (0, 10, [1, 1]), (10, 10, [1, 1]), (11, 19, [0]), (11, 20, [2, 2, 4]), (20, 20, [2, 2, 4]),
            (20, 30, [3, 0, 2, 4]), (21, 29, [0]), (30, 40, [2, 0, 3]), (31, 39, [0]), (40, 40, [1, 3]),
            (41, 1000, [0]), (10, 40, [5, 0, 1, 2, 3, 4]), (0, GREATEST, [5, 0, 1, 2, 3, 4]),
        ):
            self.check_unchanged(before, ("between", lowest, highest), answer)

    def test_less_than_the_first(self):
        before = laid(5, 30, 10)
        for lowest, highest in ((1, 0), (30, 29), (30, 10), (GREATEST, GREATEST - 1), (GREATEST, 0), (10001, 10000)):
            self.check_unchanged(before, ("between", lowest, highest), [-22])
        self.check_unchanged(laid(5), ("between", 1, 0), [-22])

    def test_great_numbers(self):
        before = laid(5, 1000, 1)
        for lowest, highest, answer in (
            (0, 0, [0]), (1000, 10001, [1, 0]), (1001, GREATEST, [0]), (10001, 10001, [0]), (GREATEST, GREATEST, [0]),
        ):
            self.check_unchanged(before, ("between", lowest, highest), answer)

    def test_no_pieces(self):
        self.check_unchanged(laid(5), ("between", 0, GREATEST), [0])

    def test_nine_pieces_and_those_left_after_a_pack(self):
        nine = laid(5, *[5] * 9)
        self.assertEqual(last(*nine, ("between", 5, 5)), [9, 0, 1, 2, 3, 4, 5, 6, 7, 8])
        self.check_unchanged(nine + [("pack",)], ("between", 5, 5), [8, 0, 1, 2, 3, 4, 5, 6, 7], baskets=1)


class Middle(CallTest):
    def test_the_middle_and_the_mean(self):
        for pieces, answer in (
            ((7,), [7, 7]),
            ((30, 10), [10, 20]),
            ((10, 31), [10, 20]),
            ((30, 10, 20), [20, 20]),
            ((1, 1000, 2), [2, 334]),
            ((40, 10, 30, 20), [20, 25]),
            ((40, 10, 20, 20), [20, 22]),
            ((5, 5, 5, 5), [5, 5]),
            ((9, 8, 7, 6, 5, 4, 3, 2, 1), [5, 5]),
            ((9, 8, 7, 6, 5, 4, 3, 2), [5, 5]),
            ((1000, 1, 1, 1, 1000, 1000, 1000, 1, 1), [1, 445]),
        ):
            self.check_unchanged(laid(5, *pieces), ("middle",), answer)

    def test_rounded_down(self):
        for pieces, mean in (((1, 2), 1), ((2, 2, 1), 1), ((1, 1, 2), 1), ((1, 2, 3), 2), ((2, 3, 3, 3), 2)):
            self.assertEqual(last(*laid(5, *pieces), ("middle",))[1], mean, pieces)

    def test_no_pieces(self):
        self.check_unchanged(laid(5), ("middle",), [-6])
        self.check_unchanged(laid(5, 5) + [("pack",)], ("middle",), [-6], baskets=1)

    def test_baskets_do_not_count(self):
        before = laid(5, 5, 20, 40) + [("pack",)]
        self.check_unchanged(before, ("middle",), [20, 30], baskets=1)


class Basket(CallTest):
    def test_first_and_last(self):
        before = laid(30, 10, 20, 30, 5) + [("packset", 11), ("packset", 1)]
        self.check_unchanged(before, ("basket", 0), [3, 35, 10, 20, 5], baskets=2)
        self.check_unchanged(before, ("basket", 1), [1, 30, 30], baskets=2)

    def test_none_such(self):
        before = laid(30, 10, 20, 30, 5) + [("packset", 11), ("packset", 1)]
        for number in (2, 3, 9, GREATEST):
            self.check_unchanged(before, ("basket", number), [-2], baskets=2)
        self.check_unchanged(laid(5), ("basket", 0), [-2])
        self.check_unchanged(laid(5, 6, 7), ("basket", 0), [-2])

    def test_the_grams_are_as_they_lay(self):
        before = laid(60, 30, 10, 20) + [("pack",)]
        self.check_unchanged(before, ("basket", 0), [3, 60, 30, 10, 20], baskets=1)

    def test_nine_in_one(self):
        before = laid(9000, *[1000] * 9) + [("pack",)]
        self.check_unchanged(before, ("basket", 0), [9, 9000] + [1000] * 9, baskets=1)

    def test_after_an_unpack(self):
        calls = laid(10, 10, 20) + [("pack",), ("pack",), ("unpack",), ("basket", 0), ("basket", 1), ("unpack",)]
        self.assertEqual(run(*calls, ("basket", 0), ("basket", 1))[-5:], [[1, 10, 10], [-2], [1], [-2], [-2]])

    def test_what_comes_later_is_not_in_it(self):
        calls = laid(10, 4, 6) + [("pack",), ("piece", 9), ("want", 9), ("take", 0), ("basket", 0)]
        self.assertEqual(run(*calls)[-1], [2, 10, 4, 6])
        calls = laid(10, 4, 6) + [("pack",), ("unpack",), ("piece", 9), ("take", 0), ("pack",), ("basket", 0)]
        self.assertEqual(run(*calls)[-1], [2, 15, 6, 9])

    def test_sixty_baskets(self):
        calls = packed_singly(60) + [("basket", 59), ("basket", 60)]
        self.assertEqual(run(*calls)[-2:], [[1, 1, 1], [-2]])


class Sums(CallTest):
    def test_after_each_call_that_changes(self):
        self.check(
            (("begin", 50), [0]),
            (("sums",), [0, 0, 0, 0, 0, 0, 0]),
            (("piece", 30), [0, 30]),
            (("sums",), [0, 1, 1, 30, 0, 0, 0]),
            (("piece", 40), [1, 70]),
            (("piece", 60), [2, 130]),
            (("piece", 7), [3, 137]),
            (("sums",), [0, 4, 4, 137, 0, 0, 0]),
            (("take", 3), [7]),
            (("sums",), [0, 3, 3, 130, 0, 0, 0]),
            (("pack",), [0, 60, 4]),
            (("sums",), [0, 3, 2, 70, 1, 60, 10]),
            (("packset", 3), [1, 70]),
            (("sums",), [0, 3, 0, 0, 2, 130, 30]),
            (("want", 65), [50]),
            (("sums",), [0, 3, 0, 0, 2, 130, 5]),
            (("want", 60), [65]),
            (("sums",), [0, 3, 0, 0, 2, 130, 10]),
            (("want", 70), [60]),
            (("sums",), [0, 3, 0, 0, 2, 130, 0]),
            (("want", 10000), [70]),
            (("sums",), [0, 3, 0, 0, 2, 130, 0]),
            (("want", 1), [10000]),
            (("sums",), [0, 3, 0, 0, 2, 130, 128]),
            (("unpack",), [2]),
            (("sums",), [0, 3, 2, 70, 1, 60, 59]),
            (("take", 0), [30]),
            (("sums",), [0, 2, 1, 40, 1, 60, 59]),
            (("unpack",), [1]),
            (("sums",), [0, 2, 2, 100, 0, 0, 0]),
        )

    def test_what_is_refused_does_not_count(self):
        refused = [("piece", 0), ("take", 2), ("pack",), ("packset", 1), ("unpack",), ("want", 0)]
        self.assertEqual(last(*laid(50, 30, 10), *refused, ("sums",)), [0, 2, 2, 40, 0, 0, 0])

    def test_sixty_that_came(self):
        calls = packed_singly(60) + [("piece", 1), ("sums",), ("unpack",), ("take", 0), ("sums",)]
        self.assertEqual(run(*calls)[-5:], [[-28], [0, 60, 0, 0, 60, 60, 0], [1], [1], [0, 59, 0, 0, 59, 59, 0]])

    def test_it_changes_nothing(self):
        before = laid(5, 30, 10, 20, 6) + [("pack",)]
        self.check_unchanged(before, ("sums",), [0, 4, 3, 60, 1, 6, 1], baskets=1)


class State(CallTest):
    def test_no_pieces(self):
        for wanted in (1, 10000):
            self.check_unchanged(laid(wanted), ("state",), [0, wanted])

    def test_after_each_call_that_changes(self):
        self.check(
            (("begin", 50), [0]),
            (("piece", 30), [0, 30]),
            (("piece", 10), [1, 40]),
            (("piece", 20), [2, 60]),
            (("piece", 40), [3, 100]),
            (("state",), [4, 50, 30, 10, 20, 40]),
            (("take", 2), [20]),
            (("state",), [3, 50, 30, 10, 40]),
            (("pack",), [0, 50, 6]),
            (("state",), [1, 50, 30]),
            (("want", 7), [50]),
            (("state",), [1, 7, 30]),
            (("unpack",), [2]),
            (("state",), [3, 7, 30, 10, 40]),
            (("packset", 5), [0, 70]),
            (("state",), [1, 7, 10]),
            (("unpack",), [2]),
            (("state",), [3, 7, 10, 30, 40]),
        )

    def test_it_changes_nothing(self):
        before = laid(5, 30, 10, 20, 5) + [("pack",)]
        self.check_unchanged(before, ("state",), [3, 5, 30, 10, 20], baskets=1)

    def test_nine_pieces(self):
        self.assertEqual(last(*laid(5, *range(9, 0, -1)), ("state",)), [9, 5, 9, 8, 7, 6, 5, 4, 3, 2, 1])
