"""Which plans begin takes, and which it refuses."""

import unittest

from tests.helper import as_text, binomial_counts, run_begin

RIGHT = [0]
REFUSED = [-2]


class PlanCase(unittest.TestCase):
    def assert_right(self, loads, counts, degree):
        self.assertEqual(run_begin(loads, counts, degree), RIGHT, (loads, counts, degree))

    def assert_refused(self, loads, counts, degree):
        self.assertEqual(run_begin(loads, counts, degree), REFUSED, (loads, counts, degree))


class Steps(PlanCase):
    def test_one_step_counts_nothing(self):
        self.assert_right([0], "0", 0)
        self.assert_right([0], "0", 8)

    def test_sixty_four_and_sixty_five_steps(self):
        self.assert_right([1] * 64, as_text([0] * 64), 8)
        self.assert_right([1] * 64, as_text([1, -1] * 32), 0)
        self.assert_refused([1] * 65, as_text([0] * 65), 0)

    def test_no_step(self):
        self.assert_refused([], "", 0)
        self.assert_refused([], "0", 0)

    def test_very_many_steps(self):
        self.assert_refused([0] * 4000, as_text([0] * 2048), 0)
        self.assert_refused([0] * 8000, "0", 0)

    def test_loads_fifteen_and_sixteen(self):
        self.assert_right([15, 15], "1 -1", 0)
        self.assert_right([15, 0], "1 -1", 0)
        for loads in ([16, 0], [0, 16], [16, 16], [4294967295, 0], [0, 0, 16, 0]):
            self.assert_refused(loads, as_text([0] * len(loads)), 0)

    def test_fewer_and_more_counts_than_loads(self):
        self.assert_right([1, 2, 3], "0 0 0", 0)
        self.assert_refused([1, 2, 3], "0 0", 0)
        self.assert_refused([1, 2, 3], "0 0 0 0", 0)
        self.assert_refused([1, 2, 3], "1 -1", 0)
        self.assert_refused([1, 2], "1 -1 0", 0)
        self.assert_refused([1], "", 0)


class Degrees(PlanCase):
    def test_each_degree_up_to_eight(self):
        for degree in range(9):
            counts = as_text(binomial_counts(degree + 1))
            self.assert_right([0] * (degree + 2), counts, degree)

    def test_lower_degrees_go_out_but_not_the_told_one(self):
        for degree in range(1, 9):
            counts = as_text(binomial_counts(degree))
            self.assert_right([0] * (degree + 1), counts, degree - 1)
            self.assert_refused([0] * (degree + 1), counts, degree)

    def test_lower_degrees_than_what_goes_out_are_right_too(self):
        for degree in range(9):
            self.assert_right([0] * 10, as_text(binomial_counts(9)), degree)

    def test_told_degree_goes_out_but_not_a_lower_one(self):
        # Not the 0th but the 1st; not the 1st but the 0th and the 2nd.
        self.assert_refused([0, 1], "1 0", 1)
        self.assert_refused([0, 1, 2, 3], "3 -4 1 0", 2)

    def test_degree_above_eight(self):
        for degree in (9, 10, 4294967295):
            self.assert_refused([0] * 12, as_text(binomial_counts(11)), degree)
            self.assert_refused([0], "0", degree)

    def test_nought_to_the_nought_is_one(self):
        self.assert_refused([0], "1", 0)
        self.assert_refused([0, 1, 2], "5 -1 1", 0)
        self.assert_right([0, 1, 2], "5 -6 1", 0)

    def test_step_nought_to_a_higher_power_is_nought(self):
        # Were the first step's power 1 for each k, the first sums would come to 0, the second ones not.
        self.assert_refused([0, 1, 2], "1 -1 0", 1)
        self.assert_right([0, 1, 2], "1/3 -2/3 1/3", 1)

    def test_documents_plan(self):
        counts = "-1/2 1/2 1/2 -1/2"
        self.assert_right([0, 1, 1, 0], counts, 0)
        self.assert_right([0, 1, 1, 0], counts, 1)
        self.assert_refused([0, 1, 1, 0], counts, 2)

    def test_sums_are_exact(self):
        self.assert_right([0] * 4, "0.1 0.2 -0.3 0", 0)
        self.assert_right([0] * 3, "1/3 1/6 -1/2", 0)
        self.assert_refused([0] * 3, "1/3 1/3 -0.666666666", 0)
        self.assert_refused([0] * 2, "1/4294967295 -1/4294967294", 0)
        self.assert_refused([0] * 2, "18446744073709551615 -18446744073709551614", 0)

    def test_sixty_four_steps_of_unlike_denominators(self):
        bottoms = [4294967295 - step for step in range(32)]
        halves = [f"1/{bottom} -1/{bottom}" for bottom in bottoms]
        self.assert_right([0] * 64, " ".join(halves), 0)
        self.assert_refused([0] * 64, " ".join(halves), 1)
        self.assert_refused([0] * 64, " ".join(halves[:-1]) + " 1/7 -1/8", 0)

    def test_highest_degree_over_sixty_four_steps(self):
        counts = [0] * 54 + binomial_counts(9)
        self.assert_right([0] * 64, as_text(counts), 8)
        self.assert_refused([0] * 64, as_text(counts[:-1] + [-2]), 8)
        self.assert_refused([0] * 64, as_text([0] * 55 + binomial_counts(8)), 8)


class CountSizes(PlanCase):
    def assert_count(self, count, right):
        opposite = count[1:] if count.startswith("-") else "-" + count
        expected = RIGHT if right else REFUSED
        self.assertEqual(run_begin([0, 0], f"{count} {opposite}", 0), expected, count)
        self.assertEqual(run_begin([0, 0], f"{opposite} {count}", 0), expected, count)

    def test_numerator(self):
        self.assert_count(str(2**64 - 1), True)
        self.assert_count(str(2**64), False)
        self.assert_count(str(2**64 + 1), False)
        self.assert_count("9" * 500, False)

    def test_numerator_is_bounded_on_both_sides(self):
        # Counts of the other sign are small enough, so that the great one alone is to be refused.
        below = f"{2**63} {2**63 - 1}"
        self.assert_right([0] * 3, f"-{2**64 - 1} {below}", 0)
        self.assert_refused([0] * 3, f"-{2**64} {2**63} {2**63}", 0)
        self.assert_refused([0] * 3, f"{2**64} -{2**63} -{2**63}", 0)

    def test_denominator(self):
        self.assert_count(f"1/{2**32 - 1}", True)
        self.assert_count(f"1/{2**32}", False)
        self.assert_count(f"1/{2**32 + 1}", False)
        self.assert_count("0.000000001", True)
        self.assert_count("0.0000000001", False)

    def test_both_together(self):
        self.assert_count(f"{2**64 - 2}/{2**32 - 1}", True)
        self.assert_count(f"{2**64 - 1}/{2**32 - 2}", True)

    def test_size_is_that_in_least_terms(self):
        self.assert_count(f"{(2**64 - 1) * 6}/6", True)
        self.assert_count(f"{2**64 * 6}/6", False)
        self.assert_count(f"{2**64}/2", True)
        self.assert_count(f"7/{(2**32 - 1) * 7}", True)
        self.assert_count(f"7/{2**32 * 7}", False)
        self.assert_count(f"2/{2**32}", True)
        self.assert_count(f"3/{2**32}", False)
        self.assert_count("0.5000000000000000000000", True)
        self.assert_count("3" * 200 + "/" + "6" * 200, True)
        self.assert_count("18446744073709551615.000", True)
        self.assert_count("18446744073709551616.000", False)

    def test_nought_over_much(self):
        self.assert_right([0], "0/" + "9" * 500, 0)
        self.assert_right([0], "0." + "0" * 500, 0)


if __name__ == "__main__":
    unittest.main()
