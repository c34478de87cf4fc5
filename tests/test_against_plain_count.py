"""Many lines, each answer held against one counted out plainly, and what the document says holds."""

import itertools
import random
import unittest

from helper import laid, run


def sets_of(pieces):
    """Every set as (weight, count, number), by going through all choices of places."""
    found = []
    for count in range(len(pieces) + 1):
        for places in itertools.combinations(range(len(pieces)), count):
            found.append((sum(pieces[i] for i in places), count, sum(2 ** i for i in places)))
    return found


class Plain:
    """The document's words in another form: each piece is kept with where it is."""

    def __init__(self):
        self.wanted = None
        self.table = []
        self.baskets = []
        self.came = 0

    def answer(self, name, *told):
        if name != "begin" and self.wanted is None:
            return [-11]
        return getattr(self, name)(*told)

    def begin(self, wanted):
        if wanted not in range(1, 10001):
            return [-22]
        self.wanted, self.table, self.baskets, self.came = wanted, [], [], 0
        return [0]

    def piece(self, grams):
        if grams not in range(1, 1001):
            return [-22]
        if len(self.table) == 9 or self.came == 60:
            return [-28]
        self.came += 1
        self.table = self.table + [grams]
        return [len(self.table) - 1, sum(self.table)]

    def take(self, i):
        if i not in range(len(self.table)):
            return [-2]
        self.came -= 1
        grams = self.table[i]
        self.table = self.table[:i] + self.table[i + 1:]
        return [grams]

    def want(self, wanted):
        if wanted not in range(1, 10001):
            return [-22]
        before, self.wanted = self.wanted, wanted
        return [before]

    def off(self, s):
        self.baskets = self.baskets + [[g for i, g in enumerate(self.table) if s >> i & 1]]
        self.table = [g for i, g in enumerate(self.table) if not s >> i & 1]
        return len(self.baskets) - 1

    def pack(self):
        enough = [one for one in sets_of(self.table) if one[0] >= self.wanted]
        if not enough:
            return [-33]
        weight, _, s = min(enough)
        return [self.off(s), weight, s]

    def packset(self, s):
        weights = {number: weight for weight, _, number in sets_of(self.table)}
        if s not in weights:
            return [-22]
        if weights[s] < self.wanted:
            return [-12]
        return [self.off(s), weights[s]]

    def unpack(self):
        if not self.baskets:
            return [-6]
        if len(self.table) + len(self.baskets[-1]) > 9:
            return [-28]
        self.table = self.table + self.baskets[-1]
        count = len(self.baskets[-1])
        self.baskets = self.baskets[:-1]
        return [count]

    def best(self, w):
        if w > 10000:
            return [-22]
        enough = [one for one in sets_of(self.table) if one[0] >= w]
        if not enough:
            return [-33]
        weight, count, s = min(enough)
        return [weight, s, count]

    def fewest(self, w):
        if w > 10000:
            return [-22]
        enough = [(count, -weight) for weight, count, _ in sets_of(self.table) if weight >= w]
        if not enough:
            return [-33]
        # Of the sets with the fewest pieces the heaviest one is that of the heaviest pieces.
        count, weight = min(enough)
        return [count, -weight]

    def most(self, w):
        if w > 10000:
            return [-22]
        # Of the sets with the most pieces the lightest one is that of the lightest pieces.
        count, weight = max((count, -weight) for weight, count, _ in sets_of(self.table) if weight <= w)
        return [count, -weight]

    def ways(self, w):
        if w > 10000:
            return [-22]
        return [len([1 for weight, _, _ in sets_of(self.table) if weight == w])]

    def under(self, w):
        if w > 10000:
            return [-22]
        return [max(weight for weight, _, _ in sets_of(self.table) if weight <= w)]


def some_line(source, heaviest):
    """A line of calls with few or many grams, edges and wrong numbers among them."""
    calls = []
    if source.random() < 0.2:
        calls.append(("pack",))
    calls.append(("begin", source.choice((1, heaviest, 3 * heaviest))))
    while len(calls) < 120:
        name = source.choice(("piece",) * 10 + ("pack", "packset", "unpack", "take", "want") * 2
                             + ("best", "fewest", "most", "ways", "under"))
        if source.random() < 0.01:
            name = "begin"
        wrong = source.random() < 0.04
        if name == "piece":
            calls.append((name, source.choice((0, 1001)) if wrong else source.randint(1, heaviest)))
        elif name in ("pack", "unpack"):
            calls.append((name,))
        elif name == "take":
            calls.append((name, source.randint(0, 9)))
        elif name == "packset":
            calls.append((name, source.choice((512, 4294967295)) if wrong else source.randint(0, 2 ** source.randint(1, 9))))
        else:
            calls.append((name, source.choice((0, 10000, 10001)) if wrong else source.randint(0, 4 * heaviest)))
    return calls


class AgainstPlainCount(unittest.TestCase):
    def test_every_answer(self):
        source = random.Random(61)
        for turn in range(120):
            calls = some_line(source, (2, 5, 20, 1000)[turn % 4])
            plain = Plain()
            self.assertEqual(run(*calls), [plain.answer(*call) for call in calls], calls)
            self.assertEqual(plain.came, len(plain.table) + sum(map(len, plain.baskets)))


class WhatHolds(unittest.TestCase):
    def test_no_basket_that_weighs_enough_weighs_less_than_the_best(self):
        source = random.Random(1)
        for _ in range(60):
            pieces = [source.randint(1, 30) for _ in range(source.randint(1, 9))]
            w = source.randint(0, sum(pieces))
            weight = run(*laid(1, *pieces), ("best", w))[-1][0]
            self.assertGreaterEqual(weight, w)
            self.assertFalse([one for one in sets_of(pieces) if w <= one[0] < weight])

    def test_with_fewer_none_is_enough_and_with_more_all_are_too_heavy(self):
        source = random.Random(2)
        for _ in range(60):
            pieces = [source.randint(1, 30) for _ in range(source.randint(1, 9))]
            w = source.randint(0, sum(pieces))
            few, many = run(*laid(1, *pieces), ("fewest", w), ("most", w))[-2:]
            self.assertTrue(all(weight < w for weight, count, _ in sets_of(pieces) if count < few[0]))
            self.assertTrue(all(weight > w for weight, count, _ in sets_of(pieces) if count > many[0]))

    def test_as_many_ways_to_a_weight_as_to_what_is_left(self):
        pieces = [4, 4, 7, 9, 11, 20, 1, 2, 2]
        total = sum(pieces)
        counts = run(*laid(1, *pieces), *[("ways", w) for w in range(total + 1)])[-total - 1:]
        self.assertEqual(counts, counts[::-1])
        self.assertEqual(sum(count for [count] in counts), 512)

    def test_there_is_enough_just_if_all_weigh_enough(self):
        for w, enough in ((59, True), (60, True), (61, False)):
            found = run(*laid(1, 10, 20, 30), ("best", w), ("fewest", w), ("want", max(w, 1)), ("pack",))
            self.assertEqual([found[-4] != [-33], found[-3] != [-33], found[-1] != [-33]], [enough] * 3)
