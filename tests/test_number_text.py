"""The texts of numbers, and of counts, that begin takes and refuses."""

import unittest

from tests.helper import run_begin

RIGHT = [0]
REFUSED = [-2]


def begin_with_both(text, opposite):
    """What begin answers to two counts, which must add up to 0."""
    return run_begin([0, 0], text + " " + opposite, 0)


class Shapes(unittest.TestCase):
    def test_what_a_text_is_worth(self):
        pairs = [
            ("0", "0"), ("-0", "0"), ("7", "-7"), ("007", "-7"), ("-00012", "12"), ("1234567890", "-1234567890"),
            ("1.5", "-3/2"), ("1.50", "-3/2"), ("-0.5", "1/2"), ("00.25", "-1/4"), ("12.0", "-12"), ("-0.0", "0"),
            ("1.05", "-21/20"), ("10.5", "-21/2"), ("9.9", "-99/10"),
            ("1/2", "-0.5"), ("-6/4", "3/2"), ("6/03", "-2"), ("0/5", "0"), ("-0/5", "0/7"), ("010/4", "-5/2"),
            ("1/10", "-0.1"), ("1/100", "-0.01"),
        ]
        for text, opposite in pairs:
            with self.subTest(text=text):
                self.assertEqual(begin_with_both(text, opposite), RIGHT)
                self.assertEqual(begin_with_both(opposite, text), RIGHT)

    def test_what_a_text_is_not_worth(self):
        pairs = [("7", "7"), ("-7", "-7"), ("1.5", "-15"), ("1.05", "-1.5"), ("1/2", "-2"), ("1/2", "-1"),
                 ("1.0", "-10"), ("12", "-21"), ("-0.5", "-1/2"), ("0.01", "-0.1")]
        for text, opposite in pairs:
            with self.subTest(text=text):
                self.assertEqual(begin_with_both(text, opposite), REFUSED)

    def test_texts_that_are_no_number(self):
        # Each would be worth 0, or nothing at all, so that nothing but its shape speaks against it.
        shapes = [
            "", "-", "--0", "+0", "0-", "-+0", "0+0", ".", ".0", "0.", "-.0", "-0.", "0..0", "0.0.0", "0.-0", "0.+0",
            "/", "/1", "0/", "-/1", "-0/", "0//1", "0/1/1", "0/-1", "0/+1", "0.0/1", "0/1.0", "0/.1", "0/1.",
            "0/0", "0/00", "0/" + "0" * 400, "-0/0", "1/0",
            "0e0", "0E0", "0x0", "0_0", "0,0", "0:1", "0;1", "0/:", "zero", "a",
            "0a", "a0", "0/a", "0.a", "-a", "inf", "nan",
            "0\t", "\t0", "0\n", "\n0", "0\r", "0\x00", "\x00", "0\x0b", "0.0\n", "0/1\n",
            "\u0660", "\uff10", "0\u0660", "\u22120", "0/\u0661", "0\u00a0",
        ]
        for text in shapes:
            with self.subTest(text=text):
                self.assertEqual(run_begin([0], text, 0), REFUSED)
                self.assertEqual(run_begin([0, 0], "0 " + text, 0), REFUSED)
                self.assertEqual(run_begin([0, 0], text + " 0", 0), REFUSED)

    def test_neighbours_of_the_digits(self):
        # Taken for digits, / would be worth -1 and : 10.
        for text, opposite in ((":", "-10"), ("1:", "-20"), ("/", "1"), ("1/", "-9"), ("0.:", "-1")):
            with self.subTest(text=text):
                self.assertEqual(begin_with_both(text, opposite), REFUSED)

    def test_single_bytes(self):
        for byte in range(256):
            with self.subTest(byte=byte):
                alone = RIGHT if byte == 48 else REFUSED
                self.assertEqual(run_begin([0], [byte], 0), alone)
                ahead = RIGHT if byte in (45, 48) else REFUSED
                self.assertEqual(run_begin([0], [byte, 48], 0), ahead)
                behind = RIGHT if byte == 48 else REFUSED
                self.assertEqual(run_begin([0], [48, byte], 0), behind)
                between = RIGHT if byte in (46, 48) else REFUSED
                self.assertEqual(run_begin([0], [48, byte, 48], 0), between)
                below = RIGHT if byte == 47 else REFUSED
                self.assertEqual(run_begin([0], [48, byte, 49], 0), below)


class Lengths(unittest.TestCase):
    def test_count_of_512_and_513_bytes(self):
        for head, fill, tail in [("", "0", ""), ("-", "0", ""), ("0.", "0", ""), ("-0.", "0", ""), ("0/", "0", "1"),
                                 ("-0/", "0", "1"), ("0/", "9", ""), ("", "0", "/1"), ("", "0", ".0")]:
            with self.subTest(head=head, tail=tail):
                room = 512 - len(head) - len(tail)
                self.assertEqual(run_begin([0], head + fill * room + tail, 0), RIGHT)
                self.assertEqual(run_begin([0], head + fill * (room + 1) + tail, 0), REFUSED)

    def test_long_count_keeps_its_worth(self):
        self.assertEqual(begin_with_both("0" * 511 + "7", "-7"), RIGHT)
        self.assertEqual(begin_with_both("0" * 512 + "7", "-7"), REFUSED)
        self.assertEqual(begin_with_both("1/" + "0" * 509 + "3", "-1/3"), RIGHT)
        self.assertEqual(begin_with_both("-0.5" + "0" * 508, "1/2"), RIGHT)

    def test_long_count_behind_others(self):
        self.assertEqual(run_begin([0] * 3, "0 0 " + "0" * 512, 0), RIGHT)
        self.assertEqual(run_begin([0] * 3, "0 0 " + "0" * 513, 0), REFUSED)

    def test_counts_of_4096_and_4097_bytes(self):
        text = " ".join(["0" * 511] * 7 + ["0" * 512])
        self.assertEqual(len(text), 4096)
        self.assertEqual(run_begin([0] * 8, text, 0), RIGHT)
        longer = " ".join(["0" * 511] * 6 + ["0" * 512] * 2)
        self.assertEqual(len(longer), 4097)
        self.assertEqual(run_begin([0] * 8, longer, 0), REFUSED)

    def test_many_counts_of_4096_and_4097_bytes(self):
        text = " ".join(["0" * 63] * 63 + ["0" * 64])
        self.assertEqual(len(text), 4096)
        self.assertEqual(run_begin([0] * 64, text, 8), RIGHT)
        self.assertEqual(run_begin([0] * 64, text + "0", 8), REFUSED)

    def test_longest_row_there_is(self):
        self.assertEqual(run_begin([0], "0" * 8000, 0), REFUSED)
        self.assertEqual(run_begin([0], " " * 8000, 0), REFUSED)


class Blanks(unittest.TestCase):
    def test_just_one_between_two(self):
        self.assertEqual(run_begin([0, 0], "1 -1", 0), RIGHT)
        for text in ("1  -1", " 1 -1", "1 -1 ", " 1 -1 ", "1-1", "1,-1", "1\t-1", "1\n-1", "1 \t-1", "- 1 1", "1 - 1"):
            with self.subTest(text=text):
                self.assertEqual(run_begin([0, 0], text, 0), REFUSED)

    def test_blanks_are_no_counts(self):
        for steps in (1, 2, 3, 4):
            for text in ("", " ", "  ", "0 ", " 0", "0  0", " 0 0", "0 0 "):
                with self.subTest(steps=steps, text=text):
                    self.assertEqual(run_begin([0] * steps, text, 0), REFUSED)

    def test_blanks_within_a_number(self):
        for text in ("0 /1", "0/ 1", "0 .0", "0. 0", "- 0"):
            for steps in (1, 2):
                with self.subTest(steps=steps, text=text):
                    self.assertEqual(run_begin([0] * steps, text, 0), REFUSED)


if __name__ == "__main__":
    unittest.main()
