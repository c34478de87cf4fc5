"""Many lines, each answer held against one counted out plainly, and what the document says holds."""

import itertools
import random
import unittest

from helper import CALLS, GREATEST, laid, run


def sets_of(pieces):
    """Every set as (weight, count, number), by going through all choices of places."""
    found = []
    for count in range(len(pieces) + 1):
        for places in itertools.combinations(range(len(pieces)), count):
            found.append((sum(pieces[i] for i in places), count, sum(2 ** i for i in places)))
    return found


class Plain:
    """The document's words in another form: each piece is kept with where it is."""

    def __init__(self):
        self.wanted = None
        self.table = []
        self.baskets = []
        self.came = 0

    def answer(self, name, *told):
        if name != "begin" and self.wanted is None:
            return [-11]
        return getattr(self, name)(*told)

    def begin(self, wanted):
        if wanted not in range(1, 10001):
            return [-22]
        self.wanted, self.table, self.baskets, self.came = wanted, [], [], 0
        return [0]

    def piece(self, grams):
        if grams not in range(1, 1001):
            return [-22]
        if len(self.table) == 9 or self.came == 60:
            return [-28]
        self.came += 1
        self.table = self.table + [grams]
        return [len(self.table) - 1, sum(self.table)]

    def take(self, i):
        if i not in range(len(self.table)):
            return [-2]
        self.came -= 1
        grams = self.table[i]
        self.table = self.table[:i] + self.table[i + 1:]
        return [grams]

    def want(self, wanted):
        if wanted not in range(1, 10001):
            return [-22]
        before, self.wanted = self.wanted, wanted
        return [before]

    def off(self, s):
        self.baskets = self.baskets + [[g for i, g in enumerate(self.table) if s >> i & 1]]
        self.table = [g for i, g in enumerate(self.table) if not s >> i & 1]
        return len(self.baskets) - 1

    def pack(self):
        enough = [one for one in sets_of(self.table) if one[0] >= self.wanted]
        if not enough:
            return [-33]
        weight, _, s = min(enough)
        return [self.off(s), weight, s]

    def packset(self, s):
        weights = {number: weight for weight, _, number in sets_of(self.table)}
        if s not in weights:
            return [-22]
        if weights[s] < self.wanted:
            return [-12]
        return [self.off(s), weights[s]]

    def unpack(self):
        if not self.baskets:
            return [-6]
        if len(self.table) + len(self.baskets[-1]) > 9:
            return [-28]
        self.table = self.table + self.baskets[-1]
        count = len(self.baskets[-1])
        self.baskets = self.baskets[:-1]
        return [count]

    def best(self, w):
        if w > 10000:
            return [-22]
        enough = [one for one in sets_of(self.table) if one[0] >= w]
        if not enough:
            return [-33]
        weight, count, s = min(enough)
        return [weight, s, count]

    def fewest(self, w):
        if w > 10000:
            return [-22]
        enough = [(count, -weight) for weight, count, _ in sets_of(self.table) if weight >= w]
        if not enough:
            return [-33]
        # Of the sets with the fewest pieces the heaviest one is that of the heaviest pieces.
        count, weight = min(enough)
        return [count, -weight]

    def most(self, w):
        if w > 10000:
            return [-22]
        # Of the sets with the most pieces the lightest one is that of the lightest pieces.
        count, weight = max((count, -weight) for weight, count, _ in sets_of(self.table) if weight <= w)
        return [count, -weight]

    def ways(self, w):
        if w > 10000:
            return [-22]
        return [len([1 for weight, _, _ in sets_of(self.table) if weight == w])]

    def under(self, w):
        if w > 10000:
            return [-22]
        return [max(weight for weight, _, _ in sets_of(self.table) if weight <= w)]

    def half(self):
        total = sum(self.table)
        _, lighter = min((abs(total - 2 * weight), min(weight, total - weight)) for weight, _, _ in sets_of(self.table))
        return [lighter, total - lighter]

    def row(self):
        other = Plain()
        other.wanted, other.table = self.wanted, self.table
        found = []
        answer = other.pack()
        while answer != [-33]:
            found.append(answer[1])
            answer = other.pack()
        return [len(found)] + found

    def weigh(self, s):
        for weight, count, number in sets_of(self.table):
            if number == s:
                return [weight, count]
        return [-22]

    def could(self, w):
        if w > 10000:
            return [-22]
        return [int(self.best(w) != [-33])]

    def need(self, grams):
        if grams not in range(1, 1001):
            return [-22]
        for more in range(1001):
            if sum(self.table) + more * grams >= self.wanted:
                return [more]
        return [-33]

    def heaviest(self):
        if not self.table:
            return [-6]
        grams, place = min((-grams, i) for i, grams in enumerate(self.table))
        return [place, -grams]

    def between(self, x, y):
        if y < x:
            return [-22]
        found = list(range(len(self.table)))
        for i, grams in enumerate(self.table):
            if grams < x or grams > y:
                found.remove(i)
        return [len(found)] + found

    def middle(self):
        if not self.table:
            return [-6]
        # Those at both ends go away until one or two are left.
        left = sorted(self.table)
        while len(left) > 2:
            left = left[1:-1]
        mean = 0
        while (mean + 1) * len(self.table) <= sum(self.table):
            mean += 1
        return [left[0], mean]

    def basket(self, b):
        if b not in range(len(self.baskets)):
            return [-2]
        return [len(self.baskets[b]), sum(self.baskets[b]), *self.baskets[b]]

    def sums(self):
        beyond = 0
        for basket in self.baskets:
            if sum(basket) > self.wanted:
                beyond += sum(basket) - self.wanted
        packed = [grams for basket in self.baskets for grams in basket]
        return [0, self.came, len(self.table), sum(self.table), len(self.baskets), sum(packed), beyond]

    def state(self):
        return [len(self.table), self.wanted, *self.table]


REFUSALS = {
    "begin": {-22}, "piece": {-22, -28}, "take": {-2}, "want": {-22}, "pack": {-33}, "packset": {-22, -12},
    "unpack": {-6, -28}, "best": {-22, -33}, "fewest": {-22, -33}, "most": {-22}, "ways": {-22}, "under": {-22},
    "half": set(), "row": set(), "weigh": {-22}, "could": {-22}, "need": {-22, -33}, "heaviest": {-6},
    "between": {-22}, "middle": {-6}, "basket": {-2}, "sums": set(), "state": set(),
}
CHANGES = ("piece",) * 10 + ("pack", "packset", "unpack", "take", "want") * 2
LOOKS = (
    "best", "fewest", "most", "ways", "under", "half", "row", "weigh", "could", "need", "heaviest", "between", "middle",
    "basket", "sums", "state",
)


def some_told(source, name, heaviest):
    """What is told with a call of this name, edges and wrong numbers among them."""
    count = CALLS[name][1]
    if count and source.random() < 0.04:
        return [source.choice((0, 1, 512, 1000, 1001, 10000, 10001, GREATEST)) for _ in range(count)]
    if name in ("piece", "need"):
        return [source.randint(1, heaviest)]
    if name in ("take", "basket"):
        return [source.randint(0, 9)]
    if name in ("packset", "weigh"):
        return [source.randint(0, 2 ** source.randint(1, 9))]
    if name == "between":
        return [source.randint(0, heaviest), source.randint(0, heaviest + 1)]
    return [source.randint(0, 4 * heaviest) for _ in range(count)]


def some_line(source, heaviest, length):
    """A line of so many calls, few or many grams in them."""
    calls = []
    if source.random() < 0.2:
        calls.append((source.choice(("pack", "row", "state")),))
    calls.append(("begin", source.choice((1, heaviest, 3 * heaviest, 10000))))
    while len(calls) < length:
        name = source.choice(CHANGES if source.random() < 0.6 else LOOKS)
        if source.random() < 0.01:
            name = "begin"
        calls.append((name, *some_told(source, name, heaviest)))
    return calls


class AgainstPlainCount(unittest.TestCase):
    def hold_against(self, calls):
        plain = Plain()
        expected = [plain.answer(*call) for call in calls]
        self.assertEqual(run(*calls), expected, calls)
        self.assertEqual(plain.came, len(plain.table) + sum(map(len, plain.baskets)))
        return {(call[0], min(answer[0], 0)) for call, answer in zip(calls, expected)}

    def test_every_answer(self):
        source = random.Random(61)
        seen = set()
        for turn in range(120):
            calls = some_line(source, (2, 5, 20, 1000)[turn % 4], (120, 256)[turn % 2])
            if len(calls) == 256:
                self.assertEqual({name for name, *_ in calls} | {"begin"}, set(CALLS))
            seen |= self.hold_against(calls)
        # Each call has been answered, and each has been refused in every way that it can be.
        self.assertEqual({name for name, sign in seen if sign == 0}, set(CALLS))
        refused = {name: {sign for one, sign in seen if one == name and sign < 0} - {-11} for name in CALLS}
        self.assertEqual(refused, REFUSALS)

    def test_few_pieces_looked_at_from_all_sides(self):
        source = random.Random(62)
        for turn in range(150):
            pieces = [source.randint(1, (3, 12, 1000)[turn % 3]) for _ in range(turn % 10)]
            calls = laid(source.randint(1, max(1, sum(pieces))), *pieces)
            for name in LOOKS:
                for _ in range(2):
                    calls.append((name, *some_told(source, name, 12)))
            self.hold_against(calls)


class WhatHolds(unittest.TestCase):
    def test_no_basket_that_weighs_enough_weighs_less_than_the_best(self):
        source = random.Random(1)
        for _ in range(60):
            pieces = [source.randint(1, 30) for _ in range(source.randint(1, 9))]
            w = source.randint(0, sum(pieces))
            weight = run(*laid(1, *pieces), ("best", w))[-1][0]
            self.assertGreaterEqual(weight, w)
            self.assertFalse([one for one in sets_of(pieces) if w <= one[0] < weight])

    def test_with_fewer_none_is_enough_and_with_more_all_are_too_heavy(self):
        source = random.Random(2)
        for _ in range(60):
            pieces = [source.randint(1, 30) for _ in range(source.randint(1, 9))]
            w = source.randint(0, sum(pieces))
            few, many = run(*laid(1, *pieces), ("fewest", w), ("most", w))[-2:]
            self.assertTrue(all(weight < w for weight, count, _ in sets_of(pieces) if count < few[0]))
            self.assertTrue(all(weight > w for weight, count, _ in sets_of(pieces) if count > many[0]))

    def test_no_two_baskets_of_all_differ_less_than_the_halves(self):
        source = random.Random(3)
        for turn in range(100):
            pieces = [source.randint(1, (5, 60, 1000)[turn % 3]) for _ in range(turn % 10)]
            lighter, other = run(*laid(1, *pieces), ("half",))[-1]
            self.assertEqual(lighter + other, sum(pieces))
            self.assertLessEqual(lighter, other)
            differences = [abs(sum(pieces) - 2 * weight) for weight, _, _ in sets_of(pieces)]
            self.assertEqual(other - lighter, min(differences), pieces)

    def test_all_that_came_are_on_the_table_or_in_baskets(self):
        source = random.Random(4)
        for turn in range(60):
            calls = [("begin", 9)]
            while len(calls) < 60:
                name = source.choice(CHANGES)
                calls.append((name, *some_told(source, name, 12)))
            came = 0
            for (name, *_), answer in zip(calls, run(*calls)):
                if answer[0] >= 0 and name in ("piece", "take"):
                    came += 1 if name == "piece" else -1
            count = run(*calls, ("sums",))[-1][4]
            found = run(*calls, ("sums",), ("state",), *[("basket", b) for b in range(count)])[len(calls):]
            sums, state, baskets = found[0], found[1], found[2:]
            wanted = state[1]
            self.assertEqual(sums[1], came)
            self.assertEqual(state[0] + sum(basket[0] for basket in baskets), came)
            self.assertEqual(sums[2:4], [state[0], sum(state[2:])])
            self.assertEqual(sums[5], sum(sum(basket[2:]) for basket in baskets))
            self.assertEqual(sums[6], sum(basket[1] - wanted for basket in baskets if basket[1] > wanted))

    def test_as_many_ways_to_a_weight_as_to_what_is_left(self):
        pieces = [4, 4, 7, 9, 11, 20, 1, 2, 2]
        total = sum(pieces)
        counts = run(*laid(1, *pieces), *[("ways", w) for w in range(total + 1)])[-total - 1:]
        self.assertEqual(counts, counts[::-1])
        self.assertEqual(sum(count for [count] in counts), 512)

    def test_there_is_enough_just_if_all_weigh_enough(self):
        for w, enough in ((59, True), (60, True), (61, False)):
            looks = [("best", w), ("fewest", w), ("could", w), ("want", w), ("row",), ("need", 1), ("pack",)]
            found = run(*laid(1, 10, 20, 30), *looks)
            self.assertEqual([found[-7] != [-33], found[-6] != [-33], found[-1] != [-33]], [enough] * 3)
            self.assertEqual([found[-5] == [1], found[-3] != [0], found[-2] == [0]], [enough] * 3)
