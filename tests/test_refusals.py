"""What is refused, with which number, and that it changes nothing."""

import unittest

from tests.helper import STATE, as_text, asked, back, begin, comes, reading, run, says, says_all, take

PLAN = begin([4, 1, 2], "1 -2 1", 1)

WRONG_BEGINS = {
    "no step": begin([], "", 0),
    "too many steps": begin([0] * 65, as_text([0] * 65), 0),
    "a load above 15": begin([0, 16], "1 -1", 0),
    "a degree above 8": begin([0, 1], "0 0", 9),
    "no number": begin([0, 1], "1 x", 0),
    "an empty count": begin([0, 1], "1  -1", 0),
    "a denominator of noughts": begin([0, 1], "0/0 0", 0),
    "a count too long": begin([0], "0" * 513, 0),
    "counts too long": begin([0] * 9, " ".join(["0" * 455] * 9) + "00", 0),
    "a numerator too great": begin([0, 1], "18446744073709551616 -18446744073709551616", 0),
    "a denominator too great": begin([0, 1], "1/4294967296 -1/4294967296", 0),
    "fewer counts": begin([0, 1, 2], "1 -1", 0),
    "more counts": begin([0, 1], "1 -1 0", 0),
    "drift that stays": begin([0, 1], "1 -1", 1),
    "all of it wrong": begin([99] * 70, "?", 4294967295),
}

WRONG_SAYS = {
    "which above 2": says(3, "1", "1", "1", "1"),
    "which far above 2": says(4294967295, "1", "1", "1", "1"),
    "no worth": says(0, "", "1", "1", "1"),
    "no bound": says(1, "1", "1/0", "1", "1"),
    "no nearness": says(1, "1", "1", ".5", "1"),
    "no square": says(2, "1", "1", "1", "0" * 513),
    "a bound below 0": says(1, "1", "-1", "1", "1"),
    "a nearness below 0": says(1, "1", "1", "-1/2", "1"),
    "a square below 0": says(2, "1", "1", "1", "-0.1"),
    "rows that look like calls": says(0, [1, 1], [4, 0], [4, 1], [0, 0, 0]),
    "all of it wrong": says(99, "x" * 2000, "", "-", "-1" * 1000),
}
# The square would have a denominator above 2^4096.
GREAT_SAYS = says(2, "1/" + "7" * 510, "0", "0", "1/" + "7" * 510)


class NotBegun(unittest.TestCase):
    def test_each_call_at_the_beginning(self):
        self.assertEqual(run(take(5)), [[-1]])
        self.assertEqual(run(STATE), [[-1]])
        self.assertEqual(run(reading(0)), [[-1]])
        self.assertEqual(run(reading(4294967295)), [[-1]])
        self.assertEqual(run(back(0)), [[-1]])
        self.assertEqual(run(back(4294967295)), [[-1]])
        self.assertEqual(run(comes(0)), [[-1]])
        self.assertEqual(run(comes(4294967295)), [[-1]])
        self.assertEqual(run(*says_all("1", "1", "1", "1")), [[-1]] * 3)
        self.assertEqual(run(GREAT_SAYS), [[-1]])
        for name, wrong in WRONG_SAYS.items():
            with self.subTest(name):
                self.assertEqual(run(wrong, STATE), [[-1], [-1]])

    def test_refused_take_leaves_no_reading(self):
        given = run(take(5), STATE, reading(0), PLAN, STATE, reading(0), take(6), reading(0))
        self.assertEqual(given, [[-1], [-1], [-1], [0], [0, 3, 0, 4], [-5], [0], [0, 6]])

    def test_refused_begin_begins_nothing(self):
        for name, wrong in WRONG_BEGINS.items():
            with self.subTest(name):
                given = run(wrong, STATE, take(1), reading(0), back(0), comes(0), says(0, "1", "0", "0", "0"), STATE)
                self.assertEqual(given, [[-2]] + [[-1]] * 7)


class WhileGoingOn(unittest.TestCase):
    TAKEN = ([], [10], [10, -20], [10, -20, 30])
    ASKED = [STATE, reading(0), reading(1), reading(2), reading(3), comes(4), comes(1), comes(2), comes(0)]

    def ahead(self, taken):
        return [PLAN] + [take(r) for r in taken]

    def stays(self, refused, number, taken):
        """A refused call, with all that can be asked ahead of it and behind it."""
        ahead = self.ahead(taken)
        given = run(*ahead, *self.ASKED, refused, *self.ASKED)
        before = given[len(ahead):len(ahead) + len(self.ASKED)]
        behind = given[len(ahead) + len(self.ASKED) + 1:]
        self.assertEqual(given[len(ahead) + len(self.ASKED)], [number])
        self.assertEqual(before, behind)
        load = [4, 1, 2, -1][len(taken)]
        told = [[0, r] for r in taken] + [[-5]] * (4 - len(taken))
        self.assertEqual(behind[:5], [[0, 3, len(taken), load]] + told)
        self.says_the_same(refused, taken)

    def says_the_same(self, refused, taken):
        """A weighing that goes on behind a refused call, and is finished, says what it says without."""
        rest = [take(r) for r in (10, -20, 30)[len(taken):]]
        asking = says_all("5/3", "1/7", "1/2", "1/12")
        # 80 divisions with a reach of 2 and a square of 1/2
        expected = ["400/3", "316/21", "39649/882"]
        self.assertEqual(asked(self.ahead(taken) + rest, *asking), expected)
        self.assertEqual(asked(self.ahead(taken) + [refused] + rest, *asking), expected)
        self.assertEqual(asked(self.ahead(taken) + rest, *asking, *asking), expected * 2)

    def test_refused_begin(self):
        for name, wrong in WRONG_BEGINS.items():
            for taken in self.TAKEN:
                with self.subTest(name, taken=taken):
                    self.stays(wrong, -2, taken)

    def test_take_when_finished(self):
        self.stays(take(40), -5, [10, -20, 30])
        self.stays(take(-2**63), -5, [10, -20, 30])

    def test_no_such_reading(self):
        for taken in self.TAKEN:
            with self.subTest(taken=taken):
                self.stays(reading(len(taken)), -5, taken)
                self.stays(reading(4294967295), -5, taken)

    def test_more_to_stay_than_there_are(self):
        for taken in self.TAKEN:
            with self.subTest(taken=taken):
                self.stays(back(len(taken) + 1), -5, taken)
                self.stays(back(4294967295), -5, taken)

    def test_no_such_load(self):
        for taken in self.TAKEN:
            with self.subTest(taken=taken):
                self.stays(comes(16), -1, taken)
                self.stays(comes(4294967295), -1, taken)

    def test_wrong_says(self):
        for name, wrong in WRONG_SAYS.items():
            for taken in self.TAKEN:
                with self.subTest(name, taken=taken):
                    self.stays(wrong, -1, taken)

    def test_says_when_not_finished(self):
        for taken in self.TAKEN[:3]:
            for call in says_all("1", "1", "1", "1") + [GREAT_SAYS]:
                with self.subTest(taken=taken):
                    self.stays(call, -5, taken)

    def test_too_large_to_be_told(self):
        self.stays(GREAT_SAYS, -6, self.TAKEN[3])

    def test_goes_on_behind_a_refused_begin(self):
        given = run(PLAN, take(1), WRONG_BEGINS["drift that stays"], take(2), STATE, take(3), take(4), reading(2))
        self.assertEqual(given[2:], [[-2], [0], [0, 3, 2, 2], [0], [-5], [0, 3]])

    def test_finished_again_and_again(self):
        given = run(PLAN, take(1), take(2), take(3), take(4), take(5), STATE, reading(2), reading(3))
        self.assertEqual(given[4:], [[-5], [-5], [0, 3, 3, -1], [0, 3], [-5]])


if __name__ == "__main__":
    unittest.main()
