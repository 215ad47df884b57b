"""Numbers too large to be told: a numerator or a denominator of 2^4096 or more."""

import unittest

from tests.helper import asked, comes, says, weighed

LIMIT = 2**4096
# Nothing is counted, and the counts' sizes add up to 2.
NONE = weighed([0, 1], "1 -1", 0, [7, 7])


def over(top, bottom):
    return f"{top}/{bottom}"


class Numerators(unittest.TestCase):
    def test_reach_just_below(self):
        # (2^1024 - 1) (n + 1/d), where n d + 1 = (2^1024 + 1) (2^2048 + 1)
        n = 2**512 * (2**1024 + 2**512 + 1)
        d = 2**512 * (2**1024 - 2**512 + 1)
        given = asked(NONE, says(1, str(n), over(1, d), over(2**1024 - 1, 2), "0"))
        self.assertEqual(given, [over(LIMIT - 1, d)])

    def test_reach_at_the_limit(self):
        # 2^1024 (n + 1/d), where n d + 1 = 2^3072
        n = 2**1536 + 1
        d = 2**1536 - 1
        self.assertEqual(asked(NONE, says(1, str(n), over(1, d), str(2**1023), "0")), [-6])
        self.assertEqual(asked(NONE, says(1, str(n), over(1, d), str(2**1022), "0")), [over(2**4095, d)])

    def test_square_at_the_limit(self):
        # 2 b^2 w
        b = str(2**1600)
        self.assertEqual(asked(NONE, says(2, b, "0", "0", str(2**895))), [-6])
        self.assertEqual(asked(NONE, says(2, b, "0", "0", str(2**894))), [str(2**4095)])
        self.assertEqual(asked(NONE, says(2, b, "0", "0", str(2**895 - 1))), [str(LIMIT - 2**3201)])
        self.assertEqual(asked(NONE, says(2, b, "0", "0", str(2**895 + 1))), [-6])
        self.assertEqual(asked(NONE, says(2, "-" + b, "0", "0", str(2**895))), [-6])
        self.assertEqual(asked(NONE, says(2, "-" + b, "0", "0", str(2**894))), [str(2**4095)])

    def test_over_a_denominator(self):
        # 2 b^2 w in all is far below 2^4096, as its denominator is great.
        b = over(2**1600, 3**50)
        self.assertEqual(asked(NONE, says(2, b, "0", "0", over(2**894, 3**300))), [over(2**4095, 3**400)])
        self.assertEqual(asked(NONE, says(2, b, "0", "0", over(2**895, 3**300))), [-6])


class Denominators(unittest.TestCase):
    def test_reach_just_below(self):
        # 1/2^1366 (1/p + 2/q), where p q = 2^2730 - 1: the denominator is 2^4096 - 2^1366
        p = 2**1365 - 1
        q = 2**1365 + 1
        given = asked(NONE, says(1, over(1, p), over(2, q), over(1, 2**1367), "0"))
        self.assertEqual(given, [over(q + 2 * p, LIMIT - 2**1366)])

    def test_reach_just_above(self):
        # The same with p q = 2^2730 + 2^1366 - 3
        p = 2**1365 - 1
        q = 2**1365 + 3
        self.assertEqual(asked(NONE, says(1, over(1, p), over(2, q), over(1, 2**1367), "0")), [-6])

    def test_square_at_the_limit(self):
        b = over(1, 2**1600)
        self.assertEqual(asked(NONE, says(2, b, "0", "0", over(1, 2**897))), [-6])
        self.assertEqual(asked(NONE, says(2, b, "0", "0", over(1, 2**896))), [over(1, 2**4095)])
        self.assertEqual(asked(NONE, says(2, b, "0", "0", over(1, 2**897 - 1))), [over(1, LIMIT - 2**3199)])
        self.assertEqual(asked(NONE, says(2, b, "0", "0", over(1, 2**897 + 1))), [-6])


class OnlyWhatIsTold(unittest.TestCase):
    def test_others_are_told(self):
        # The square is too large, number and reach are not.
        texts = (str(2**1600), "0", "0", str(2**900))
        self.assertEqual(asked(NONE, *[says(which, *texts) for which in range(3)]), ["0", "0", -6])
        # The reach is too large, and the square, but not the number.
        texts = (over(1, 2**1365 - 1), over(2, 2**1365 + 3), over(1, 2**1367), "0")
        self.assertEqual(asked(NONE, *[says(which, *texts) for which in range(3)]), ["0", -6, -6])

    def test_counts_in_least_terms(self):
        # The worth's noughts go out against those of the square.
        given = asked(NONE, says(2, over(1, 10**509), "0", "0", str(10**509)))
        self.assertEqual(given, [over(1, 5 * 10**508)])
        given = asked(NONE, says(2, str(10**511), "0", "0", over(1, 2 * 10**509)))
        self.assertEqual(given, [str(10**513)])
        given = asked(NONE, says(1, "0", str(10**511), over(1, 3 * 10**500), "0"))
        self.assertEqual(given, [over(2 * 10**11, 3)])

    def test_nought_is_told_whatever_it_is_made_of(self):
        ahead = weighed([0], "0", 8, [2**63 - 1])
        great = "9" * 512
        self.assertEqual(asked(ahead, *[says(which, great, great, great, great) for which in range(3)]), ["0"] * 3)
        small = "1/" + "9" * 510
        self.assertEqual(asked(ahead, *[says(which, small, small, small, small) for which in range(3)]), ["0"] * 3)

    def test_greatest_number_is_told(self):
        great = 2**64 - 1
        ahead = weighed([0] * 64, " ".join([f"{great} -{great}"] * 32), 0, [-2**63, 2**63 - 1] * 32)
        expected = -32 * great * great * int("9" * 512)
        self.assertEqual(asked(ahead, says(0, "9" * 512, "0", "0", "0")), [str(expected)])

    def test_most_denominators_come_out(self):
        # 32 denominators of nearly 2^32, each with its opposite: the sum's own denominator stays below the limit.
        bottoms = [4294967295 - 2 * step for step in range(32)]
        counts = " ".join([over(1, bottom) for bottom in bottoms] + [over(-1, bottom) for bottom in bottoms])
        ahead = weighed([3] * 32 + [4] * 32, counts, 0, [])
        first, second = asked(ahead, comes(3), comes(4))
        self.assertEqual("-" + first, second)
        self.assertGreater(len(first), 500)

    def test_refused_says_changes_nothing(self):
        refused = says(2, str(2**1600), "0", "0", str(2**900))
        plain = says(1, "1", "1", "1", "1")
        self.assertEqual(asked(NONE, plain, refused, plain, refused, refused, plain), ["4", -6, "4", -6, -6, "4"])


if __name__ == "__main__":
    unittest.main()
