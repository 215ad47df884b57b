"""The calls against a second way to reckon them, over many made-up lists (the same ones each time)."""

import random
import re
import unittest
from fractions import Fraction

from tests.helper import STATE, as_text, begin, binomial_counts, reading, run, take

NUMBER = re.compile(r"-?[0-9]+(\.[0-9]+|/[0-9]*[1-9][0-9]*)?")


def model_counts(text):
    if len(text) > 4096:
        return None
    counts = []
    for piece in text.split(" "):
        if len(piece) > 512 or NUMBER.fullmatch(piece) is None:
            return None
        counts.append(Fraction(piece))
    return counts


def model_is_right(loads, text, degree):
    counts = model_counts(text)
    if counts is None or degree > 8 or not 1 <= len(loads) <= 64 or len(counts) != len(loads):
        return False
    if any(load > 15 for load in loads):
        return False
    if any(abs(count.numerator) >= 2**64 or count.denominator >= 2**32 for count in counts):
        return False
    return all(sum(count * step**k for step, count in enumerate(counts)) == 0 for k in range(degree + 1))


def made_counts(source, steps, degree):
    """Counts that take out that drift, mostly: shifted rows of binomials, each times a number of its own."""
    counts = [Fraction(0)] * steps
    row = binomial_counts(degree + 1)
    for shift in range(steps - len(row) + 1):
        factor = Fraction(source.randint(-30, 30), source.choice([1, 2, 3, 10, 24]))
        for place, number in enumerate(row):
            counts[shift + place] += factor * number
    if source.random() < 0.25:
        counts[source.randrange(steps)] += Fraction(source.choice([-1, 0, 1]), source.choice([1, 1000]))
    return counts


def made_begin(source):
    degree = source.randint(0, 9)
    steps = source.randint(1, 14)
    loads = [source.randint(0, 15) for _ in range(steps)]
    text = as_text(made_counts(source, steps, degree))
    if source.random() < 0.2:
        place = source.randrange(len(text))
        text = text[:place] + source.choice(["", " ", "/", ".", "-", "0", "x"]) + text[place + 1:]
    told = max(0, degree - source.choice([0, 0, 0, 1]))
    return loads, text, told


class Model:
    def __init__(self):
        self.loads = None
        self.readings = []

    def begin(self, loads, text, degree):
        if not model_is_right(loads, text, degree):
            return [-2]
        self.loads = loads
        self.readings = []
        return [0]

    def take(self, r):
        if self.loads is None:
            return [-1]
        if len(self.readings) == len(self.loads):
            return [-5]
        self.readings = self.readings + [r]
        return [0]

    def state(self):
        if self.loads is None:
            return [-1]
        following = self.loads[len(self.readings):] + [-1]
        return [0, len(self.loads), len(self.readings), following[0]]

    def reading(self, k):
        if self.loads is None:
            return [-1]
        return [0, self.readings[k]] if k < len(self.readings) else [-5]


def made_call(source, model):
    """A call, and what the model answers to it."""
    kind = source.choice(["begin", "take", "take", "take", "take", "state", "state", "reading"])
    if kind == "begin":
        loads, text, degree = made_begin(source)
        return begin(loads, text, degree), model.begin(loads, text, degree)
    if kind == "take":
        r = source.choice([-2**63, 2**63 - 1, source.randint(-2000, 2000)])
        return take(r), model.take(r)
    if kind == "state":
        return STATE, model.state()
    k = source.randint(0, 15)
    return reading(k), model.reading(k)


class AgainstModel(unittest.TestCase):
    def test_made_up_lists(self):
        seen = {}
        for seed in range(400):
            source = random.Random(seed)
            model = Model()
            pairs = [made_call(source, model) for _ in range(40)]
            expected = [answer for _, answer in pairs]
            self.assertEqual(run(*[call for call, _ in pairs]), expected, seed)
            for call, answer in pairs:
                seen[call[0], answer[0]] = seen.get((call[0], answer[0]), 0) + 1
        # Each answer of each call must have been met, or the lists show less than they seem to.
        for call, first in [(0, 0), (0, -2), (1, 0), (1, -1), (1, -5), (2, 0), (2, -1), (3, 0), (3, -1), (3, -5)]:
            self.assertGreater(seen.get((call, first), 0), 50, (call, first))


if __name__ == "__main__":
    unittest.main()
