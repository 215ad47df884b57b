"""What says refuses, and which refusal comes first."""

import unittest

from tests.helper import asked, begin, run, says, weighed

PLAN = begin([0, 1], "1 -1", 0)
UNDER_WAY = weighed([0, 1], "1 -1", 0, [8])
FINISHED = weighed([0, 1], "1 -1", 0, [8, 7])
BASIS = ("1", "1", "1", "1")

NO_NUMBERS = [
    "", "-", "1/0", "0/0", "1/000", "1.", ".5", "+1", "1/", "/1", "1/-1", "1/+1", "--1", "-.5", "1.-5", "1..5", "1/2/3",
    "1.5/2", "1/2.5", " 1", "1 ", "1 1", "1e3", "1_0", "0x1", "1,5", "inf", "nan", "one", "1\n", "\n1", "1\x00", "\u0661",
    "\u22121", "1" * 513, "-" + "1" * 512, "0" * 513, "1/" + "1" * 511, "1." + "1" * 511, "1" * 8000,
]
# In each of the four places, 512 bytes long.
LONGEST = {
    "0" * 511 + "3": "3",
    "9" * 512: "9" * 512,
    "3." + "0" * 510: "3",
    "0" * 508 + "30/4": "15/2",
    "1/" + "0" * 509 + "7": "1/7",
    "1/" + "9" * 510: "1/" + "9" * 510,
    "0." + "0" * 509 + "1": "1/1" + "0" * 510,
}


def with_text(place, text):
    """The four numbers, one of them as told."""
    texts = list(BASIS)
    texts[place] = text
    return texts


class Which(unittest.TestCase):
    def test_nought_to_two_and_more(self):
        given = asked(FINISHED, *[says(which, "2", "1", "1", "1") for which in (0, 1, 2, 3, 4, 255, 4294967295)])
        self.assertEqual(given, ["2", "7", "29/3", -1, -1, -1, -1])


class NoNumber(unittest.TestCase):
    def test_in_each_place(self):
        for place in range(4):
            for text in NO_NUMBERS:
                for which in range(3):
                    with self.subTest(place=place, text=text, which=which):
                        self.assertEqual(asked(FINISHED, says(which, *with_text(place, text))), [-1])

    def test_bytes_that_are_no_digits(self):
        for place in range(4):
            for byte in range(256):
                given = asked(FINISHED, says(0, *with_text(place, [byte])))[0]
                if 48 <= byte <= 57:
                    self.assertIsInstance(given, str)
                else:
                    self.assertEqual(given, -1, (place, byte))

    def test_also_where_it_would_not_be_needed(self):
        # A number does not ask for nearness or square, and of a worth of 0 nothing is told.
        for place in (1, 2, 3):
            texts = with_text(place, "x")
            texts[0] = "0"
            self.assertEqual(asked(FINISHED, says(0, *texts)), [-1])

    def test_longest_as_worth(self):
        for text, exact in LONGEST.items():
            self.assertEqual(len(text), 512)
            self.assertEqual(asked(FINISHED, says(0, *with_text(0, text))), [exact])
            self.assertEqual(asked(FINISHED, says(0, *with_text(0, text + "0"))), [-1])

    def test_longest_as_bound(self):
        for text, exact in LONGEST.items():
            self.assertEqual(asked(FINISHED, says(1, "1", text, "0", "0")), [exact])
            self.assertEqual(asked(FINISHED, says(1, "1", text + "0", "0", "0")), [-1])

    def test_longest_as_nearness(self):
        # Counts of a half each, so that the reach is the nearness.
        ahead = weighed([0, 1], "1/2 -1/2", 0, [8, 7])
        for text, exact in LONGEST.items():
            self.assertEqual(asked(ahead, says(1, "1", "0", text, "0")), [exact])
            self.assertEqual(asked(ahead, says(1, "1", "0", text + "0", "0")), [-1])

    def test_longest_as_square(self):
        # Four counts of a half, so that the square is that of a reading.
        ahead = weighed([0] * 4, "1/2 -1/2 1/2 -1/2", 0, [1] * 4)
        for text, exact in LONGEST.items():
            self.assertEqual(asked(ahead, says(2, "1", "0", "0", text)), [exact])
            self.assertEqual(asked(ahead, says(2, "1", "0", "0", text + "0")), [-1])

    def test_longest_below_nought(self):
        self.assertEqual(asked(FINISHED, says(0, *with_text(0, "-" + "9" * 511))), ["-" + "9" * 511])
        for place in (1, 2, 3):
            self.assertEqual(asked(FINISHED, says(0, *with_text(place, "-" + "0" * 511))), ["1"])
            self.assertEqual(asked(FINISHED, says(0, *with_text(place, "-" + "0" * 510 + "1"))), [-1])


class BelowNought(unittest.TestCase):
    BELOW = ["-1", "-1/1000", "-0.0001", "-7/3", "-00.5", "-18446744073709551616"]
    NOUGHT = ["0", "-0", "-0.0", "-0/5", "-000", "0.00"]

    def test_bound_nearness_square(self):
        for place in (1, 2, 3):
            for text in self.BELOW:
                for which in range(3):
                    with self.subTest(place=place, text=text, which=which):
                        self.assertEqual(asked(FINISHED, says(which, *with_text(place, text))), [-1])

    def test_worth_may_be_below_nought(self):
        self.assertEqual(asked(FINISHED, *[says(0, text, "0", "0", "0") for text in self.BELOW]),
                         ["-1", "-1/1000", "-1/10000", "-7/3", "-1/2", "-18446744073709551616"])

    def test_nought_with_a_sign_is_not_below_nought(self):
        for place in range(4):
            for which in range(3):
                plain = asked(FINISHED, says(which, *with_text(place, "0")))
                self.assertIsInstance(plain[0], str)
                for text in self.NOUGHT:
                    with self.subTest(place=place, text=text, which=which):
                        self.assertEqual(asked(FINISHED, says(which, *with_text(place, text))), plain)


class Order(unittest.TestCase):
    NOT_FINISHED = ([PLAN], UNDER_WAY)
    # Its square would have a denominator of far more than 2^4096.
    TOO_LARGE = ("1/" + "9" * 510, "0", "0", "1/" + "9" * 510)

    def test_not_begun(self):
        for which in (0, 1, 2, 3, 4294967295):
            self.assertEqual(run(says(which, *BASIS)), [[-1]])
            self.assertEqual(run(says(which, "x", "-1", "", "")), [[-1]])
            self.assertEqual(run(begin([0], "1", 0), says(which, *BASIS)), [[-2], [-1]])
        self.assertEqual(run(says(2, *self.TOO_LARGE)), [[-1]])

    def test_not_finished(self):
        for ahead in self.NOT_FINISHED:
            self.assertEqual(asked(ahead, *[says(which, *BASIS) for which in range(3)]), [-5, -5, -5])

    def test_which_above_two_is_told_before_not_finished(self):
        for ahead in self.NOT_FINISHED:
            self.assertEqual(asked(ahead, says(3, *BASIS), says(4294967295, *BASIS)), [-1, -1])

    def test_no_number_is_told_before_not_finished(self):
        for ahead in self.NOT_FINISHED:
            for place in range(4):
                for text in ("", "-", "1/0", "1.", ".5", "+1", "1" * 513):
                    self.assertEqual(asked(ahead, says(0, *with_text(place, text))), [-1])

    def test_below_nought_is_told_before_not_finished(self):
        for ahead in self.NOT_FINISHED:
            for place in (1, 2, 3):
                self.assertEqual(asked(ahead, says(0, *with_text(place, "-1"))), [-1])
            self.assertEqual(asked(ahead, says(0, *with_text(0, "-1"))), [-5])

    def test_not_finished_is_told_before_too_large(self):
        self.assertEqual(asked(FINISHED, says(2, *self.TOO_LARGE)), [-6])
        for ahead in self.NOT_FINISHED:
            self.assertEqual(asked(ahead, says(2, *self.TOO_LARGE)), [-5])

    def test_wrong_call_is_told_before_too_large(self):
        worth, bound, nearness, square = self.TOO_LARGE
        self.assertEqual(asked(FINISHED, says(3, *self.TOO_LARGE)), [-1])
        self.assertEqual(asked(FINISHED, says(2, worth, "-1", nearness, square)), [-1])
        self.assertEqual(asked(FINISHED, says(2, worth, bound, "x", square)), [-1])


if __name__ == "__main__":
    unittest.main()
