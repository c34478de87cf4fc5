"""Calls by their names, and their answers one by one, for the tests."""

import unittest

from basketweights.baskets import answers

# name: (number, how many numbers are told with it)
CALLS = {
    "begin": (0, 1),
    "piece": (1, 1),
    "take": (2, 1),
    "want": (3, 1),
    "pack": (4, 0),
    "packset": (5, 1),
    "unpack": (6, 0),
    "best": (7, 1),
    "fewest": (8, 1),
    "most": (9, 1),
    "ways": (10, 1),
    "under": (11, 1),
    "half": (12, 0),
    "row": (13, 0),
    "weigh": (14, 1),
    "could": (15, 1),
    "need": (16, 1),
    "heaviest": (17, 0),
    "between": (18, 2),
    "middle": (19, 0),
    "basket": (20, 1),
    "sums": (21, 0),
    "state": (22, 0),
}

GREATEST = 4294967295


def flat(calls):
    """The list of whole numbers for calls such as ("begin", 500) or ("pack",)."""
    numbers = []
    for name, *told in calls:
        number, count = CALLS[name]
        if len(told) != count:
            raise ValueError(f"{name} is told {count} numbers")
        numbers.append(number)
        numbers.extend(told)
    return numbers


def parted(numbers):
    """The answers one by one, parted by their counts."""
    found = []
    place = 0
    while place < len(numbers):
        count = numbers[place]
        answer = numbers[place + 1:place + 1 + count]
        if count < 1 or len(answer) != count:
            raise ValueError(f"a wrong count at {place}: {numbers}")
        found.append(answer)
        place += 1 + count
    return found


def run(*calls):
    """The answers of these calls on one new object, a list for each."""
    numbers = flat(calls)
    # What is handed in keeps to the interface in the tests too.
    if not 1 <= len(calls) <= 256 or len(numbers) > 800:
        raise ValueError("a line of a length that is never handed in")
    return parted(answers(numbers))


def last(*calls):
    """The answer of the last of these calls."""
    return run(*calls)[-1]


def laid(wanted, *grams):
    """A begin and a piece for each grams."""
    return [("begin", wanted)] + [("piece", g) for g in grams]


def packed_singly(count):
    """Calls that bring so many pieces of 1 gram, each packed at once into a basket of its own."""
    return [("begin", 1)] + [("piece", 1), ("pack",)] * count


def probe(baskets):
    """Calls whose answers tell all that the object keeps, if it has so many baskets.

    It looks at all of it; then it wants 1, takes all pieces away, unpacks each basket and takes its pieces away.
    """
    calls = [("state",), ("sums",)] + [("basket", b) for b in range(baskets + 1)]
    calls += [("want", 1)] + [("take", 0)] * 10
    for _ in range(baskets):
        calls += [("unpack",)] + [("take", 0)] * 10
    return calls + [("unpack",)]


class CallTest(unittest.TestCase):
    def check(self, *pairs):
        """Each pair is a call and its answer, all on one object."""
        calls = [call for call, _ in pairs]
        self.assertEqual(run(*calls), [answer for _, answer in pairs])

    def check_unchanged(self, before, call, answer, baskets=0):
        """After these calls, this one answers so and leaves the object as it was."""
        after = run(*before, *probe(baskets))
        with_call = run(*before, call, *probe(baskets))
        place = len(before)
        self.assertEqual(with_call[place], answer, call)
        self.assertEqual(with_call[:place] + with_call[place + 1:], after, call)
