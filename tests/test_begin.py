from helper import CALLS, GREATEST, CallTest, laid, last, packed_singly, run


class Begin(CallTest):
    def test_edges_of_what_is_wanted(self):
        for wanted, answer in ((0, -22), (1, 0), (10000, 0), (10001, -22), (GREATEST, -22)):
            self.assertEqual(run(("begin", wanted)), [[answer]], wanted)

    def test_before_a_begin_all_others_are_refused(self):
        others = [
            ("piece", 5), ("take", 0), ("want", 5), ("pack",), ("packset", 0), ("unpack",),
            ("best", 0), ("fewest", 0), ("most", 0), ("ways", 0), ("under", 0), ("half",), ("row",), ("weigh", 0),
            ("could", 0), ("need", 1), ("heaviest",), ("between", 0, 1000), ("middle",), ("basket", 0), ("sums",),
            ("state",),
        ]
        self.assertEqual({name for name, *_ in others} | {"begin"}, set(CALLS))
        self.assertEqual(run(*others), [[-11]] * len(others))
        for wanted in (0, 10001, GREATEST):
            self.assertEqual(run(("begin", wanted), *others), [[-22]] + [[-11]] * len(others))

    def test_not_begun_is_told_ahead_of_any_other_refusal(self):
        others = [
            ("piece", 0), ("take", 9), ("want", 0), ("pack",), ("packset", GREATEST), ("unpack",),
            ("best", 10001), ("fewest", 10001), ("most", 10001), ("ways", 10001), ("under", 10001),
            ("weigh", GREATEST), ("could", 10001), ("need", 0), ("between", 1, 0), ("basket", GREATEST),
        ]
        self.assertEqual(run(*others), [[-11]] * len(others))

    def test_a_refused_begin_does_not_begin(self):
        self.check(
            (("begin", 0), [-22]),
            (("piece", 5), [-11]),
            (("begin", 10001), [-22]),
            (("want", 5), [-11]),
            (("begin", 7), [0]),
            (("want", 5), [7]),
            (("piece", 5), [0, 5]),
        )

    def test_a_second_begin_clears_all(self):
        self.check(
            (("begin", 10), [0]),
            (("piece", 10), [0, 10]),
            (("piece", 30), [1, 40]),
            (("pack",), [0, 10, 1]),
            (("begin", 20), [0]),
            (("take", 0), [-2]),
            (("unpack",), [-6]),
            (("ways", 0), [1]),
            (("piece", 25), [0, 25]),
            (("pack",), [0, 25, 1]),
            (("want", 1), [20]),
        )

    def test_what_is_told_after_a_second_begin(self):
        looks = [
            ("half",), ("row",), ("weigh", 0), ("weigh", 1), ("could", 1), ("need", 5), ("heaviest",),
            ("between", 0, GREATEST), ("middle",), ("basket", 0), ("sums",), ("state",),
        ]
        calls = laid(10, 10, 30, 50) + [("pack",), ("begin", 20)] + looks
        self.assertEqual(
            run(*calls)[-12:],
            [[0, 0], [0], [0, 0], [-22], [0], [4], [-6], [0], [-6], [-2], [0, 0, 0, 0, 0, 0, 0], [0, 20]],
        )

    def test_what_is_told_after_a_second_begin_that_is_refused(self):
        looks = [
            ("half",), ("row",), ("weigh", 1), ("could", 1), ("need", 5), ("heaviest",),
            ("between", 0, GREATEST), ("middle",), ("basket", 0), ("sums",), ("state",),
        ]
        calls = laid(10, 10, 30, 50) + [("pack",), ("begin", 0)] + looks
        self.assertEqual(
            run(*calls)[-12:],
            [[-22], [30, 50], [2, 30, 50], [30, 1], [1], [0], [1, 50], [2, 0, 1], [30, 40], [1, 10, 10],
             [0, 3, 2, 80, 1, 10, 0], [2, 10, 30, 50]],
        )

    def test_a_second_begin_forgets_how_many_came(self):
        calls = packed_singly(60) + [("piece", 1), ("begin", 1), ("piece", 1)]
        self.assertEqual(run(*calls)[-3:], [[-28], [0], [0, 1]])

    def test_a_refused_second_begin_changes_nothing(self):
        before = laid(10, 10, 30, 4) + [("pack",)]
        for wanted in (0, 10001, GREATEST):
            self.check_unchanged(before, ("begin", wanted), [-22], baskets=1)

    def test_what_a_begin_wants_is_kept(self):
        self.assertEqual(last(("begin", 10000), ("want", 1)), [10000])
        self.assertEqual(last(("begin", 1), ("want", 10000)), [1])
