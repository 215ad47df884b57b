"""The told reach holds; drift of the told degree, and all readings higher alike, change nothing."""

import random
import unittest
from fractions import Fraction

from tests.helper import as_text, asked, binomial_counts, says_all, weighed

LEAST = -2**63
GREATEST = 2**63 - 1
BASIS = ("-7/3", "1/5", "1/2", "1/12")


def polynomial(factors, step):
    return sum(factor * step**k for k, factor in enumerate(factors))


def spread_counts(source, steps, degree):
    """Counts that take out drift of that degree: shifted rows of binomials, each times a number of its own."""
    counts = [Fraction(0)] * steps
    row = binomial_counts(degree + 1)
    for shift in range(steps - len(row) + 1):
        factor = Fraction(source.randint(-9, 9), source.choice([1, 2, 3, 10]))
        for place, number in enumerate(row):
            counts[shift + place] += factor * number
    return counts


class Drift(unittest.TestCase):
    def all_told(self, loads, counts, degree, taken):
        return asked(weighed(loads, counts, degree, taken), *says_all(*BASIS))

    def test_documents_plan(self):
        plan = ([0, 1, 1, 0], "-1/2 1/2 1/2 -1/2", 1)
        taken = [1000, 1503, 1505, 1006]
        plain = self.all_told(*plan, taken)
        for start in (-5000, 0, 1, 10**15):
            for slope in (-77, 0, 3, 10**12):
                drifted = [r + start + slope * step for step, r in enumerate(taken)]
                self.assertEqual(self.all_told(*plan, drifted), plain, (start, slope))

    def test_each_degree(self):
        for degree in range(9):
            source = random.Random(degree)
            steps = degree + 5
            loads = [source.randint(0, 15) for _ in range(steps)]
            counts = as_text(spread_counts(source, steps, degree))
            taken = [source.randint(-1000, 1000) for _ in range(steps)]
            plain = self.all_told(loads, counts, degree, taken)
            for _ in range(5):
                factors = [source.randint(-50, 50) for _ in range(degree + 1)]
                drifted = [r + polynomial(factors, step) for step, r in enumerate(taken)]
                self.assertEqual(self.all_told(loads, counts, degree, drifted), plain, degree)

    def test_one_degree_more_is_drift_that_stays(self):
        for degree in range(9):
            steps = degree + 2
            counts = as_text(binomial_counts(degree + 1))
            plain = self.all_told([0] * steps, counts, degree, [0] * steps)
            drifted = self.all_told([0] * steps, counts, degree, [step**(degree + 1) for step in range(steps)])
            self.assertNotEqual(drifted[0], plain[0], degree)

    def test_over_sixty_four_steps(self):
        source = random.Random(64)
        counts = as_text(spread_counts(source, 64, 3))
        loads = [step % 16 for step in range(64)]
        taken = [source.randint(-10**6, 10**6) for _ in range(64)]
        drifted = [r + polynomial([5, -4, 3, -2], step) for step, r in enumerate(taken)]
        self.assertEqual(self.all_told(loads, counts, 3, drifted), self.all_told(loads, counts, 3, taken))

    def test_all_readings_higher_alike(self):
        for degree in range(9):
            source = random.Random(100 + degree)
            steps = degree + 4
            counts = as_text(spread_counts(source, steps, degree))
            taken = [source.randint(-1000, 1000) for _ in range(steps)]
            plain = self.all_told([0] * steps, counts, degree, taken)
            for more in (LEAST - min(taken), -1, 1, 12345, GREATEST - max(taken)):
                higher = [r + more for r in taken]
                self.assertEqual(self.all_told([0] * steps, counts, degree, higher), plain, (degree, more))

    def test_one_reading_higher_changes_the_number(self):
        plan = ([0, 1, 1, 0], "-1/2 1/2 1/2 -1/2", 1)
        plain = self.all_told(*plan, [1000, 1503, 1505, 1006])
        for step in range(4):
            taken = [1000, 1503, 1505, 1006]
            taken[step] += 1
            self.assertNotEqual(self.all_told(*plan, taken)[0], plain[0], step)


class World:
    """A made-up weighing of which all is known: what the loads are, the drift, and the errors."""

    def __init__(self, seed, extreme):
        source = random.Random(seed)
        self.extreme = extreme
        self.degree = source.randint(0, 4)
        self.steps = self.degree + source.randint(2, 8)
        self.loads = [source.randint(0, 3) for _ in range(self.steps)]
        self.counts = spread_counts(source, self.steps, self.degree)
        self.worth = Fraction(source.randint(-30, 30), source.randint(1, 12))
        self.bound = source.choice([Fraction(0), Fraction(source.randint(1, 40), source.randint(1, 12))])
        self.nearness = source.choice([Fraction(1, 2), Fraction(source.randint(1, 9)), Fraction(7, 2)])
        self.taken = self.readings(source)

    def readings(self, source):
        """Whole readings of loads in divisions and drift, each within the nearness of what it should be."""
        drift = [Fraction(source.randint(-20, 20), source.randint(1, 5)) for _ in range(self.degree + 1)]
        self.divisions = [Fraction(source.randint(-900, 900), source.randint(1, 6)) for _ in range(16)]
        taken = []
        for step in range(self.steps):
            true = self.divisions[self.loads[step]] + polynomial(drift, step)
            lowest = -((self.nearness - true) // 1)
            highest = (true + self.nearness) // 1
            upward = self.counts[step] > 0
            taken.append(int((highest if upward else lowest) if self.extreme else source.randint(lowest, highest)))
        return taken

    def holds(self, case):
        """Says what is told, and sees whether the loads lie within its reach whatever a division is worth."""
        basis = (str(self.worth), str(self.bound), str(self.nearness), "1/12")
        ahead = weighed(self.loads, as_text(self.counts), self.degree, self.taken)
        number, reach, square = [Fraction(text) for text in asked(ahead, *says_all(*basis))]
        comes_out = sum(count * self.divisions[load] for count, load in zip(self.counts, self.loads))
        for part in (-1, Fraction(-1, 3), 0, Fraction(2, 7), 1):
            true = (self.worth + part * self.bound) * comes_out
            case.assertLessEqual(abs(true - number), reach)
        case.assertGreaterEqual(square, 0)


class Reach(unittest.TestCase):
    def test_errors_of_any_kind(self):
        for seed in range(300):
            with self.subTest(seed=seed):
                World(seed, False).holds(self)

    def test_errors_that_all_go_one_way(self):
        for seed in range(300):
            with self.subTest(seed=seed):
                World(seed, True).holds(self)

    def test_just_reached(self):
        # Loads of 3 and 0 divisions, worth 5 + 7; read as 2 and 1: 36 is told as 5 with a reach of 10 + 7 + 14.
        number, reach, square = asked(weighed([1, 0], "1 -1", 0, [2, 1]), *says_all("5", "7", "1", "1"))
        self.assertEqual((number, reach), ("5", "31"))
        self.assertEqual((5 + 7) * 3 - 5, 31)
        self.assertEqual(square, "395/3")


if __name__ == "__main__":
    unittest.main()
