import contextlib
import io
import unittest

from basketweights.baskets import answers
from helper import CALLS, flat, laid, parted

LINE = laid(100, 70, 45, 60, 90) + [
    ("best", 0), ("best", 91), ("fewest", 100), ("most", 100), ("ways", 115), ("under", 100),
    ("pack",), ("piece", 0), ("take", 9), ("packset", 1), ("packset", 8), ("want", 60), ("packset", 1),
    ("half",), ("row",), ("weigh", 3), ("weigh", 8), ("could", 60), ("could", 10001), ("need", 7), ("need", 0),
    ("heaviest",), ("between", 45, 70), ("between", 70, 45), ("middle",), ("basket", 0), ("basket", 9), ("sums",),
    ("state",), ("unpack",), ("pack",), ("pack",), ("row",), ("pack",), ("want", 0), ("begin", 0), ("take", 0),
    ("want", 10000), ("need", 1), ("heaviest",), ("middle",), ("half",), ("sums",), ("state",),
]


class Unchangeable(list):
    def refuse(self, *told, **named):
        raise AssertionError("the list that was handed in is changed")

    __setitem__ = __delitem__ = __iadd__ = __imul__ = refuse
    append = extend = insert = pop = remove = clear = reverse = sort = refuse


class Interface(unittest.TestCase):
    def test_counts_and_answers_in_order(self):
        # begin 100; piece 60; piece 50; best 60; pack; unpack; pack; take 0
        calls = [0, 100, 1, 60, 1, 50, 7, 60, 4, 6, 4, 2, 0]
        self.assertEqual(
            answers(calls),
            [1, 0, 2, 0, 60, 2, 1, 110, 3, 60, 1, 1, 3, 0, 110, 3, 1, 2, 3, 0, 110, 3, 1, -2],
        )

    def test_each_call_by_its_number(self):
        calls = [0, 50, 1, 30, 1, 40, 1, 60, 2, 0, 3, 40, 4, 5, 1, 6, 7, 5, 8, 5, 9, 70, 10, 60, 11, 59]
        self.assertEqual(
            answers(calls),
            [1, 0, 2, 0, 30, 2, 1, 70, 2, 2, 130, 1, 30, 1, 50, 3, 0, 40, 1, 2, 1, 60, 1, 1,
             3, 60, 1, 1, 2, 1, 60, 2, 1, 60, 1, 1, 1, 0],
        )

        # half, row, weigh 3, could 70, need 9, heaviest, between 30 40, middle, basket 0, sums, state
        calls = [0, 50, 1, 30, 1, 40, 1, 60, 4, 12, 13, 14, 3, 15, 70, 16, 9, 17, 18, 30, 40, 19, 20, 0, 21, 22]
        self.assertEqual(
            answers(calls),
            [1, 0, 2, 0, 30, 2, 1, 70, 2, 2, 130, 3, 0, 60, 4, 2, 30, 40, 2, 1, 70, 2, 70, 2, 1, 1, 1, 0, 2, 1, 40,
             3, 2, 0, 1, 2, 30, 35, 3, 1, 60, 60, 7, 0, 3, 2, 70, 1, 60, 10, 4, 2, 50, 30, 40],
        )

    def test_the_calls_behind_one_are_read_at_their_place(self):
        # What is told with a call is never read as a call, be it answered or refused.
        self.assertEqual(answers([18, 0, 0, 22, 18, 0, 50, 12]), [1, -11] * 4)
        self.assertEqual(
            answers([0, 5, 18, 1, 0, 18, 22, 22, 14, 22, 15, 22, 16, 22, 20, 22, 22]),
            [1, 0, 1, -22, 1, 0, 1, -22, 1, 0, 1, 1, 1, -2, 2, 0, 5],
        )

    def test_a_refusal_is_its_number_alone(self):
        self.assertEqual(answers([4]), [1, -11])
        self.assertEqual(answers([0, 0]), [1, -22])
        self.assertEqual(answers([0, 5, 4, 5, 1, 5, 0, 6, 2, 0, 7, 1]), [1, 0, 1, -33, 1, -22, 1, -12, 1, -6, 1, -2, 1, -33])
        self.assertEqual(
            answers([0, 5000, 14, 1, 15, 10001, 16, 0, 16, 1, 17, 18, 2, 1, 19, 20, 0]),
            [1, 0, 1, -22, 1, -22, 1, -22, 1, -33, 1, -6, 1, -22, 1, -6, 1, -2],
        )

    def test_a_line_of_256_calls(self):
        calls = [0, 5] + [1, 7, 2, 0] * 127 + [10, 0]
        self.assertEqual(answers(calls), [1, 0] + [2, 0, 7, 1, 7] * 127 + [1, 1])

    def test_a_line_of_256_calls_with_long_answers(self):
        calls = [0, 1] + [1, 1000] * 9 + [13, 22, 18, 0, 4294967295] * 82
        row = [10, 9] + [1000] * 9
        state = [11, 9, 1] + [1000] * 9
        between = [10, 9, 0, 1, 2, 3, 4, 5, 6, 7, 8]
        self.assertEqual(answers(calls)[2 + 9 * 3:], (row + state + between) * 82)

    def test_the_line_has_every_call(self):
        self.assertEqual({name for name, *_ in LINE}, set(CALLS))

    def test_a_list_of_whole_numbers(self):
        found = answers(flat(LINE))
        self.assertIs(type(found), list)
        self.assertEqual({type(number) for number in found}, {int})

    def test_no_number_but_a_refusal_is_below_0(self):
        for answer in parted(answers(flat(LINE))):
            if answer[0] < 0:
                self.assertEqual(len(answer), 1)
            self.assertTrue(all(number >= 0 for number in answer[1:]))

    def test_what_is_handed_in_is_not_changed(self):
        calls = flat(LINE)
        kept = list(calls)
        found = answers(calls)
        self.assertEqual(calls, kept)
        self.assertIsNot(found, calls)
        self.assertEqual(answers(Unchangeable(kept)), found)

    def test_nothing_is_kept(self):
        calls = flat(LINE)
        first = answers(calls)
        self.assertEqual(answers(calls), first)
        self.assertEqual(answers([1, 5, 4]), [1, -11, 1, -11])
        self.assertEqual(answers(calls), first)

    def test_what_is_given_back_is_not_kept(self):
        calls = flat(LINE)
        first = answers(calls)
        kept = list(first)
        first.clear()
        self.assertEqual(answers(calls), kept)

    def test_nothing_is_printed(self):
        out = io.StringIO()
        with contextlib.redirect_stdout(out), contextlib.redirect_stderr(out):
            answers(flat(LINE))
        self.assertEqual(out.getvalue(), "")
