"""The calls against a second way to reckon them, over many made-up lists (the same ones each time)."""

import random
import re
import unittest
from fractions import Fraction

from tests.helper import STATE, as_text, back, begin, binomial_counts, comes, reading, run, says, take, told

NUMBER = re.compile(r"-?[0-9]+(\.[0-9]+|/[0-9]*[1-9][0-9]*)?")


def model_number(text):
    return Fraction(text) if len(text) <= 512 and NUMBER.fullmatch(text) is not None else None


def model_counts(text):
    if len(text) > 4096:
        return None
    counts = []
    for piece in text.split(" "):
        count = model_number(piece)
        if count is None:
            return None
        counts.append(count)
    return counts


def model_is_right(loads, text, degree):
    counts = model_counts(text)
    if counts is None or degree > 8 or not 1 <= len(loads) <= 64 or len(counts) != len(loads):
        return False
    if any(load > 15 for load in loads):
        return False
    if any(abs(count.numerator) >= 2**64 or count.denominator >= 2**32 for count in counts):
        return False
    return all(sum(count * step**k for step, count in enumerate(counts)) == 0 for k in range(degree + 1))


def made_counts(source, steps, degree):
    """Counts that take out that drift, mostly: shifted rows of binomials, each times a number of its own."""
    counts = [Fraction(0)] * steps
    row = binomial_counts(degree + 1)
    for shift in range(steps - len(row) + 1):
        factor = Fraction(source.randint(-30, 30), source.choice([1, 2, 3, 10, 24]))
        for place, number in enumerate(row):
            counts[shift + place] += factor * number
    if source.random() < 0.25:
        counts[source.randrange(steps)] += Fraction(source.choice([-1, 0, 1]), source.choice([1, 1000]))
    return counts


def made_begin(source):
    degree = source.randint(0, 9)
    steps = source.randint(1, 14)
    loads = [source.randint(0, 15) for _ in range(steps)]
    text = as_text(made_counts(source, steps, degree))
    if source.random() < 0.2:
        place = source.randrange(len(text))
        text = text[:place] + source.choice(["", " ", "/", ".", "-", "0", "x"]) + text[place + 1:]
    told = max(0, degree - source.choice([0, 0, 0, 1]))
    return loads, text, told


class Value:
    """A measured value with its whole form: for each source its bound, its square and its factor."""

    def __init__(self, number, form):
        self.number = number
        self.form = {name: (bound, square, factor) for name, (bound, square, factor) in form.items() if factor != 0}

    def times(self, factor):
        form = {name: (bound, square, own * factor) for name, (bound, square, own) in self.form.items()}
        return Value(self.number * factor, form)

    def plus(self, other):
        form = dict(self.form)
        for name, (bound, square, factor) in other.form.items():
            form[name] = (bound, square, factor + (form[name][2] if name in form else 0))
        return Value(self.number + other.number, form)

    def reach(self):
        return sum(abs(factor) * bound for bound, _, factor in self.form.values())

    def square(self):
        return sum(factor**2 * square for _, square, factor in self.form.values())


def model_told(counts, readings, worth, bound, nearness, square):
    """Number, reach and square of what is told, reckoned with sources by their names."""
    counted = Value(0, {})
    for step, (count, r) in enumerate(zip(counts, readings)):
        counted = counted.plus(Value(r, {f"reading {step}": (nearness, square, 1)}).times(count))
    division = Value(worth, {"worth": (bound, bound**2 / 3, 1)} if bound != 0 else {})
    product = Value(counted.number * division.number, {})
    product = product.plus(Value(0, counted.times(division.number).form))
    product = product.plus(Value(0, division.times(counted.number).form))
    rest = counted.reach() * division.reach()
    if rest != 0:
        product = product.plus(Value(0, {"remainder": (rest, rest**2 / 3, 1)}))
    return product.number, product.reach(), product.square()


def model_text(number):
    number = Fraction(number)
    if abs(number.numerator) >= 2**4096 or number.denominator >= 2**4096:
        return [-6]
    return told(str(number))


class Model:
    def __init__(self):
        self.loads = None
        self.counts = []
        self.readings = []

    def begin(self, loads, text, degree):
        if not model_is_right(loads, text, degree):
            return [-2]
        self.loads = loads
        self.counts = model_counts(text)
        self.readings = []
        return [0]

    def take(self, r):
        if self.loads is None:
            return [-1]
        if len(self.readings) == len(self.loads):
            return [-5]
        self.readings = self.readings + [r]
        return [0]

    def state(self):
        if self.loads is None:
            return [-1]
        following = self.loads[len(self.readings):] + [-1]
        return [0, len(self.loads), len(self.readings), following[0]]

    def reading(self, k):
        if self.loads is None:
            return [-1]
        return [0, self.readings[k]] if k < len(self.readings) else [-5]

    def back(self, k):
        if self.loads is None:
            return [-1]
        if k > len(self.readings):
            return [-5]
        self.readings = self.readings[:k]
        return [0]

    def comes(self, load):
        if self.loads is None or load > 15:
            return [-1]
        return model_text(sum(count for count, own in zip(self.counts, self.loads) if own == load))

    def says(self, which, *texts):
        numbers = [model_number(text) for text in texts]
        if self.loads is None or which > 2 or None in numbers or min(numbers[1:]) < 0:
            return [-1]
        if len(self.readings) < len(self.loads):
            return [-5]
        return model_text(model_told(self.counts, self.readings, *numbers)[which])


def made_number(source):
    """The text of a number, now and then a very long one, one below 0, or none."""
    chance = source.random()
    digits = source.choice([1, 2, 3, 5, 20]) if chance < 0.5 else source.randint(200, 250)
    top = source.randrange(10**digits)
    bottom = source.randrange(1, 10**digits)
    text = source.choice([f"{top}", f"{top}/{bottom}", f"{top}.{bottom}", "0", f"1/{bottom}{bottom}", f"{top}{top}"])
    if source.random() < 0.04:
        text = source.choice(["-", "+", "", " ", "."]) + text
    return text


def made_says(source):
    worth = source.choice(["", "-"]) + made_number(source)
    which = source.choice([0, 1, 2, 0, 1, 2, 0, 1, 2, 3])
    return which, worth, made_number(source), made_number(source), made_number(source)


def made_take(source, model):
    """Readings up to the plan's end, mostly, so that there is something to be said."""
    r = source.choice([-2**63, 2**63 - 1, source.randint(-2000, 2000), source.randint(-2000, 2000)])
    return take(r), model.take(r)


def made_call(source, model):
    """A call, and what the model answers to it."""
    if model.loads is not None and len(model.readings) < len(model.loads) and source.random() < 0.7:
        return made_take(source, model)
    kind = source.choice(["begin", "take", "state", "reading", "back", "comes", "says", "says", "says", "says"])
    if kind == "begin":
        loads, text, degree = made_begin(source)
        return begin(loads, text, degree), model.begin(loads, text, degree)
    if kind == "take":
        return made_take(source, model)
    if kind == "state":
        return STATE, model.state()
    if kind == "comes":
        load = source.randint(0, 17)
        return comes(load), model.comes(load)
    if kind == "says":
        texts = made_says(source)
        return says(*texts), model.says(*texts)
    k = source.randint(0, 15)
    if kind == "reading":
        return reading(k), model.reading(k)
    return back(k), model.back(k)


def made_pairs(source, model):
    """As many calls with their answers as a list surely has room for, 40 at most."""
    pairs = []
    room = 16000 - 2100
    while len(pairs) < 40 and room > 0:
        pair = made_call(source, model)
        pairs.append(pair)
        room -= len(pair[0])
    return pairs


class AgainstModel(unittest.TestCase):
    def test_made_up_lists(self):
        seen = {}
        for seed in range(400):
            source = random.Random(seed)
            model = Model()
            pairs = made_pairs(source, model)
            expected = [answer for _, answer in pairs]
            self.assertEqual(run(*[call for call, _ in pairs]), expected, seed)
            for call, answer in pairs:
                kind = (call[0], min(answer[0], 0))
                seen[kind] = seen.get(kind, 0) + 1
        # Each answer of each call must have been met, or the lists show less than they seem to.
        kinds = [(0, 0), (0, -2), (1, 0), (1, -1), (1, -5), (2, 0), (2, -1), (3, 0), (3, -1), (3, -5),
                 (4, 0), (4, -1), (4, -5), (5, 0), (5, -1), (6, 0), (6, -1), (6, -5), (6, -6)]
        for kind in kinds:
            self.assertGreater(seen.get(kind, 0), 30, kind)
        self.assertEqual(sorted(seen), sorted(kinds))


if __name__ == "__main__":
    unittest.main()
