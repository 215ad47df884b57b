"""says: number, reach and square of what is told."""

import unittest

from tests.helper import STATE, asked, begin, reading, run, says, says_all, take, weighed

LEAST = -2**63
GREATEST = 2**63 - 1
# One division is counted, so that the number is the worth.
ONE = weighed([0, 1], "1 -1", 0, [8, 7])
# None is counted, so that what the worth's bound does to it is left out.
NONE = weighed([0, 1], "1 -1", 0, [7, 7])


def told_of(ahead, worth, bound, nearness, square):
    """Number, reach and square, as texts."""
    return asked(ahead, *says_all(worth, bound, nearness, square))


class Number(unittest.TestCase):
    def number(self, loads, counts, degree, taken, worth):
        return told_of(weighed(loads, counts, degree, taken), worth, "0", "0", "0")[0]

    def test_counted_readings_times_the_worth(self):
        self.assertEqual(self.number([0, 1], "1 -1", 0, [5, 3], "1"), "2")
        self.assertEqual(self.number([0, 1], "1 -1", 0, [5, 3], "7"), "14")
        self.assertEqual(self.number([0, 1, 2], "1 -2 1", 1, [1, 10, 100], "1/3"), "27")
        self.assertEqual(self.number([0, 1, 2], "1/3 1/6 -1/2", 0, [1, 2, 4], "1"), "-4/3")

    def test_each_reading_counts_in_its_own_step(self):
        counts = "1 10 100 1000 -1111"
        for step in range(5):
            taken = [0] * 5
            taken[step] = 3
            expected = 3 * [1, 10, 100, 1000, -1111][step]
            self.assertEqual(self.number([0] * 5, counts, 0, taken, "1"), str(expected))

    def test_signs(self):
        for taken, worth, expected in (([5, 3], "2", "4"), ([3, 5], "2", "-4"), ([5, 3], "-2", "-4"),
                                       ([3, 5], "-2", "4"), ([-5, 3], "2", "-16"), ([-5, -3], "2", "-4"),
                                       ([5, -3], "-1/2", "-4"), ([-3, -5], "1/6", "1/3")):
            with self.subTest(taken=taken, worth=worth):
                self.assertEqual(self.number([0, 1], "1 -1", 0, taken, worth), expected)

    def test_nought(self):
        for taken, worth in (([0, 0], "5"), ([4, 4], "5"), ([5, 3], "0"), ([5, 3], "-0"), ([5, 3], "0/7"),
                             ([5, 3], "0.000"), ([0, 0], "0"), ([0, 0], "-1/3")):
            with self.subTest(taken=taken, worth=worth):
                self.assertEqual(self.number([0, 1], "1 -1", 0, taken, worth), "0")

    def test_extreme_readings(self):
        self.assertEqual(self.number([0, 1], "1 -1", 0, [GREATEST, LEAST], "1"), str(2**64 - 1))
        self.assertEqual(self.number([0, 1], "1 -1", 0, [LEAST, GREATEST], "1"), str(1 - 2**64))
        self.assertEqual(self.number([0, 1], "1 -1", 0, [LEAST, LEAST], "1"), "0")
        self.assertEqual(self.number([0, 1], "1 -1", 0, [GREATEST, GREATEST], "1"), "0")
        great = 2**64 - 1
        counts = " ".join([f"{great} -{great}"] * 32)
        given = self.number([0] * 64, counts, 0, [LEAST, GREATEST] * 32, "-1/3")
        self.assertEqual(given, str(32 * great * great // 3))

    def test_exact_text(self):
        for worth, expected in (("7", "7"), ("-7", "-7"), ("007", "7"), ("1.5", "3/2"), ("-1.50", "-3/2"),
                                ("0.001", "1/1000"), ("6/4", "3/2"), ("-6/3", "-2"), ("10/1", "10"), ("1/10", "1/10"),
                                ("0.5", "1/2"), ("3/007", "3/7"), ("0/5", "0"), ("-0.0", "0"), ("100", "100"),
                                ("12345678901234567890.5", "24691357802469135781/2")):
            with self.subTest(worth=worth):
                self.assertEqual(told_of(ONE, worth, "0", "0", "0")[0], expected)

    def test_bounds_do_not_change_it(self):
        self.assertEqual(told_of(ONE, "3/7", "100", "1000", "10000")[0], "3/7")


class Reach(unittest.TestCase):
    def reach(self, ahead, worth, bound, nearness):
        """The reach, which the square of the readings does not touch."""
        given = told_of(ahead, worth, bound, nearness, "0")[1]
        self.assertEqual(told_of(ahead, worth, bound, nearness, "31/7")[1], given)
        return given

    def test_of_the_readings_alone(self):
        self.assertEqual(self.reach(ONE, "1", "0", "1"), "2")
        self.assertEqual(self.reach(ONE, "3", "0", "1/2"), "3")
        self.assertEqual(self.reach(ONE, "-3", "0", "1/2"), "3")
        self.assertEqual(self.reach(weighed([0] * 4, "-1/2 1/3 1/3 -1/6", 0, [1, 2, 3, 4]), "1", "0", "1"), "4/3")

    def test_each_reading_has_an_error_of_its_own(self):
        # One error for all would go out, as the counts add up to 0.
        self.assertEqual(self.reach(NONE, "1", "0", "1"), "2")

    def test_of_the_worth_alone(self):
        self.assertEqual(self.reach(ONE, "5", "1/3", "0"), "1/3")
        self.assertEqual(self.reach(weighed([0, 1], "1 -1", 0, [0, 6]), "5", "1/3", "0"), "2")
        self.assertEqual(self.reach(weighed([0, 1], "1 -1", 0, [6, 0]), "-5", "1/3", "0"), "2")

    def test_of_both(self):
        # 3 divisions with a reach of 2, worth 5 with a reach of 7: 2 * 5 + 3 * 7 + 2 * 7
        self.assertEqual(self.reach(weighed([0, 1], "1 -1", 0, [4, 1]), "5", "7", "1"), "45")
        self.assertEqual(self.reach(weighed([0, 1], "1 -1", 0, [1, 4]), "5", "7", "1"), "45")
        self.assertEqual(self.reach(weighed([0, 1], "1 -1", 0, [4, 1]), "-5", "7", "1"), "45")
        self.assertEqual(self.reach(weighed([0, 1], "1 -1", 0, [1, 4]), "-5", "7", "1"), "45")

    def test_remainder_alone(self):
        self.assertEqual(self.reach(NONE, "0", "7", "1"), "14")
        self.assertEqual(self.reach(NONE, "0", "7", "0"), "0")
        self.assertEqual(self.reach(NONE, "0", "0", "1"), "0")

    def test_nought_worth(self):
        self.assertEqual(self.reach(ONE, "0", "7", "1"), "21")
        self.assertEqual(self.reach(ONE, "0", "7", "0"), "7")
        self.assertEqual(self.reach(ONE, "0", "0", "1"), "0")

    def test_nothing_unsure(self):
        self.assertEqual(self.reach(ONE, "5", "0", "0"), "0")
        self.assertEqual(self.reach(ONE, "5", "-0", "-0.0"), "0")

    def test_counts_that_are_nought(self):
        ahead = weighed([0, 1, 2], "0 0 0", 0, [5, -6, 7])
        self.assertEqual(self.reach(ahead, "5", "7", "1"), "0")
        ahead = weighed([0, 1, 2], "3 0 -3", 0, [1, 1000, 1])
        self.assertEqual(self.reach(ahead, "1", "0", "1"), "6")


class Square(unittest.TestCase):
    def square(self, ahead, worth, bound, nearness, square):
        return told_of(ahead, worth, bound, nearness, square)[2]

    def test_of_the_readings_alone(self):
        self.assertEqual(self.square(ONE, "1", "0", "0", "1"), "2")
        self.assertEqual(self.square(ONE, "3", "0", "0", "1/12"), "3/2")
        self.assertEqual(self.square(ONE, "-3", "0", "5", "1/12"), "3/2")
        self.assertEqual(self.square(weighed([0] * 3, "3 -4 1", 0, [1, 2, 3]), "1", "0", "0", "1"), "26")
        self.assertEqual(self.square(weighed([0] * 3, "1/2 -1/3 -1/6", 0, [1, 2, 3]), "1", "0", "0", "1"), "7/18")

    def test_of_the_worth_alone(self):
        self.assertEqual(self.square(ONE, "5", "1", "0", "0"), "1/3")
        self.assertEqual(self.square(ONE, "5", "3/2", "0", "0"), "3/4")
        self.assertEqual(self.square(weighed([0, 1], "1 -1", 0, [0, 6]), "5", "1/6", "0", "0"), "1/3")

    def test_of_readings_and_worth_without_nearness(self):
        # 3 divisions with a square of 2 * 1/2, worth 5 with a square of 36 / 3
        self.assertEqual(self.square(weighed([0, 1], "1 -1", 0, [4, 1]), "5", "6", "0", "1/2"), "133")

    def test_of_all_three(self):
        # And the remainder with a bound of 2 * 6
        self.assertEqual(self.square(weighed([0, 1], "1 -1", 0, [4, 1]), "5", "6", "1", "1/2"), "181")
        self.assertEqual(self.square(weighed([0, 1], "1 -1", 0, [1, 4]), "-5", "6", "1", "1/2"), "181")

    def test_remainder_alone(self):
        self.assertEqual(self.square(NONE, "0", "7", "1", "1"), "196/3")
        self.assertEqual(self.square(NONE, "0", "7", "1", "0"), "196/3")
        self.assertEqual(self.square(NONE, "0", "7", "0", "1"), "0")
        self.assertEqual(self.square(NONE, "0", "0", "1", "1"), "0")

    def test_nothing_spread(self):
        self.assertEqual(self.square(ONE, "5", "0", "0", "0"), "0")
        self.assertEqual(self.square(ONE, "5", "0", "9", "0"), "0")
        self.assertEqual(self.square(ONE, "5", "-0", "9", "-0/3"), "0")

    def test_counts_that_are_nought(self):
        ahead = weighed([0, 1, 2], "0 0 0", 0, [5, -6, 7])
        self.assertEqual(self.square(ahead, "5", "7", "1", "1"), "0")
        ahead = weighed([0, 1, 2], "3 0 -3", 0, [1, 1000, 1])
        self.assertEqual(self.square(ahead, "1", "0", "0", "1"), "18")


class ReadingsAtTheEdges(unittest.TestCase):
    def test_all_nought(self):
        ahead = weighed([0, 1, 1, 0], "-1/2 1/2 1/2 -1/2", 1, [0] * 4)
        self.assertEqual(told_of(ahead, "1/1000", "1/1000000", "1/2", "1/12"),
                         ["0", "1001/1000000", "250001/3000000000000"])

    def test_least_and_greatest(self):
        ahead = weighed([0, 1], "1 -1", 0, [GREATEST, LEAST])
        a = 2**64 - 1
        self.assertEqual(told_of(ahead, "2", "3", "1", "1"), [str(2 * a), str(4 + 3 * a + 6), str(8 + 3 * a * a + 12)])
        ahead = weighed([0, 1], "1 -1", 0, [LEAST, GREATEST])
        self.assertEqual(told_of(ahead, "2", "3", "1", "1"), [str(-2 * a), str(4 + 3 * a + 6), str(8 + 3 * a * a + 12)])


class Again(unittest.TestCase):
    def test_saying_changes_nothing(self):
        asking = says_all("5", "6", "1", "1/2")
        expected = ["5", "28", "85"]
        self.assertEqual(asked(ONE, *asking, *asking, *reversed(asking)), expected * 2 + expected[::-1])
        given = run(*ONE, *asking, STATE, reading(0), reading(1), take(1))
        self.assertEqual(given[-4:], [[0, 2, 2, -1], [0, 8], [0, 7], [-5]])

    def test_each_says_has_its_own_numbers(self):
        given = asked(ONE, says(1, "5", "6", "1", "1"), says(1, "0", "0", "0", "0"), says(1, "5", "0", "1", "1"))
        self.assertEqual(given, ["28", "0", "10"])

    def test_several_weighings(self):
        one = weighed([0, 1], "1 -1", 0, [9, 4])
        other = weighed([0, 1, 2], "1 -2 1", 1, [1, 0, 0])
        given = run(*one, says(0, "1", "0", "0", "0"), *other, says(0, "1", "0", "0", "0"), *one,
                    says(1, "1", "0", "1", "0"))
        self.assertEqual([given[3], given[8], given[12]], [[1, 53], [1, 49], [1, 50]])

    def test_one_step(self):
        self.assertEqual(told_of(weighed([3], "0", 8, [GREATEST]), "3", "2", "1", "1"), ["0", "0", "0"])

    def test_sixty_four_steps(self):
        ahead = weighed([1, 0] * 32, " ".join(["1/32 -1/32"] * 32), 0, [101, 1] * 32)
        self.assertEqual(told_of(ahead, "1/100", "0", "1/2", "1/12"), ["1", "1/100", "1/1920000"])

    def test_begin_alone_says_nothing(self):
        self.assertEqual(asked([begin([0], "0", 0)], *says_all("1", "0", "0", "0")), [-5, -5, -5])


if __name__ == "__main__":
    unittest.main()
