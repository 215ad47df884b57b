"""comes: how much of a load comes out."""

import unittest

from tests.helper import STATE, asked, begin, comes, reading, run, take, told, weighed

ALL_LOADS = list(range(16))


def all_come(loads, counts, degree):
    """How much comes out of each load from 0 to 15."""
    return asked([begin(loads, counts, degree)], *[comes(load) for load in ALL_LOADS])


class Sums(unittest.TestCase):
    def assert_comes(self, loads, counts, degree, expected):
        """Each load comes out as told, all others not at all."""
        texts = [expected.get(load, "0") for load in ALL_LOADS]
        self.assertEqual(all_come(loads, counts, degree), texts, (loads, counts))

    def test_documents_plan(self):
        self.assert_comes([0, 1, 1, 0], "-1/2 1/2 1/2 -1/2", 1, {0: "-1", 1: "1"})

    def test_whole_ones_and_ones_with_a_denominator(self):
        self.assert_comes([3, 3, 7, 15], "1/6 1/3 -3/4 0.25", 0, {3: "1/2", 7: "-3/4", 15: "1/4"})
        self.assert_comes([3, 4, 3, 4], "1/2 -5/2 3/2 1/2", 0, {3: "2", 4: "-2"})
        self.assert_comes([1, 2], "12 -12", 0, {1: "12", 2: "-12"})
        self.assert_comes([1, 2], "-0.1 0.100", 0, {1: "-1/10", 2: "1/10"})

    def test_in_least_terms(self):
        self.assert_comes([0, 0, 1], "1/6 1/6 -1/3", 0, {0: "1/3", 1: "-1/3"})
        self.assert_comes([9, 9, 9, 2], "1/10 1/15 1/6 -1/3", 0, {9: "1/3", 2: "-1/3"})
        self.assert_comes([8, 6], "6/4 -006/04", 0, {8: "3/2", 6: "-3/2"})
        self.assert_comes([8, 6], "10/1 -100/10", 0, {8: "10", 6: "-10"})

    def test_counts_that_go_out_against_one_another(self):
        self.assert_comes([2, 2], "1/3 -1/3", 0, {})
        self.assert_comes([2, 5, 2, 5], "1/3 1 -1/3 -1", 0, {})
        self.assert_comes([2, 5, 5], "0 7 -7", 0, {})

    def test_load_that_counts_nothing(self):
        self.assert_comes([4], "0", 8, {})
        self.assert_comes([4, 1, 2], "-0 3 -3.0", 0, {1: "3", 2: "-3"})

    def test_every_load_from_nought_to_fifteen(self):
        counts = [load * load for load in range(15)]
        counts.append(-sum(counts))
        expected = {load: str(count) for load, count in enumerate(counts)}
        self.assert_comes(ALL_LOADS, " ".join(map(str, counts)), 0, expected)

    def test_one_load_in_every_step_comes_out_as_nought(self):
        self.assert_comes([11] * 3, "1 -2 1", 1, {})

    def test_greatest_counts(self):
        great = 2**64 - 1
        self.assert_comes([0] * 32 + [1] * 32, " ".join([str(great)] * 32 + [str(-great)] * 32), 0,
                          {0: str(32 * great), 1: str(-32 * great)})
        small = 2**32 - 1
        self.assert_comes([0, 1], f"1/{small} -1/{small}", 0, {0: f"1/{small}", 1: f"-1/{small}"})

    def test_unlike_denominators(self):
        # No two of these numbers share a factor, so that all of them stay in the denominator.
        bottoms = [4294967291, 4294967279, 4294967231, 4294967197, 4294967189, 4294967161, 4294967143, 4294967111]
        loads = [6] * len(bottoms) + [7] * len(bottoms)
        counts = [f"1/{bottom}" for bottom in bottoms] + [f"-1/{bottom}" for bottom in bottoms]
        product = 1
        for bottom in bottoms:
            product *= bottom
        top = sum(product // bottom for bottom in bottoms)
        self.assert_comes(loads, " ".join(counts), 0, {6: f"{top}/{product}", 7: f"-{top}/{product}"})


class AtAnyTime(unittest.TestCase):
    PLAN = ([0, 1, 1, 0], "-1/2 1/2 1/2 -1/2", 1)

    def test_readings_do_not_matter(self):
        for many in range(5):
            ahead = weighed(*self.PLAN, [1000, -5, 2**63 - 1, -2**63][:many])
            self.assertEqual(asked(ahead, comes(0), comes(1), comes(2)), ["-1", "1", "0"])

    def test_changes_nothing(self):
        given = run(*weighed(*self.PLAN, [5]), comes(0), STATE, reading(0), comes(0), take(6), reading(1))
        self.assertEqual(given[2:], [told("-1"), [0, 4, 1, 1], [0, 5], told("-1"), [0], [0, 6]])

    def test_new_plan(self):
        given = asked([begin(*self.PLAN)], comes(1))
        self.assertEqual(given, ["1"])
        given = asked([begin(*self.PLAN), begin([1, 2], "7 -7", 0)], comes(0), comes(1), comes(2))
        self.assertEqual(given, ["0", "7", "-7"])

    def test_old_plan_behind_a_refused_begin(self):
        given = run(begin(*self.PLAN), begin([1, 2], "7 7", 0), comes(0), comes(1), comes(2))
        self.assertEqual(given[1:], [[-2], told("-1"), told("1"), told("0")])


class Refused(unittest.TestCase):
    PLAN = begin([15, 0], "1 -1", 0)

    def test_loads_fifteen_and_sixteen(self):
        self.assertEqual(asked([self.PLAN], comes(15), comes(14), comes(0)), ["1", "0", "-1"])
        self.assertEqual(run(self.PLAN, comes(16), comes(17), comes(4294967295))[1:], [[-1], [-1], [-1]])

    def test_nothing_begun(self):
        self.assertEqual(run(comes(0), comes(15), comes(16), comes(4294967295)), [[-1]] * 4)
        self.assertEqual(run(begin([0], "1", 0), comes(0)), [[-2], [-1]])


if __name__ == "__main__":
    unittest.main()
