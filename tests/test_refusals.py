"""What is refused, with which number, and that it changes nothing."""

import unittest

from tests.helper import STATE, as_text, begin, reading, run, take

PLAN = begin([4, 1, 2], "1 -2 1", 1)

WRONG_BEGINS = {
    "no step": begin([], "", 0),
    "too many steps": begin([0] * 65, as_text([0] * 65), 0),
    "a load above 15": begin([0, 16], "1 -1", 0),
    "a degree above 8": begin([0, 1], "0 0", 9),
    "no number": begin([0, 1], "1 x", 0),
    "an empty count": begin([0, 1], "1  -1", 0),
    "a denominator of noughts": begin([0, 1], "0/0 0", 0),
    "a count too long": begin([0], "0" * 513, 0),
    "counts too long": begin([0] * 9, " ".join(["0" * 455] * 9) + "00", 0),
    "a numerator too great": begin([0, 1], "18446744073709551616 -18446744073709551616", 0),
    "a denominator too great": begin([0, 1], "1/4294967296 -1/4294967296", 0),
    "fewer counts": begin([0, 1, 2], "1 -1", 0),
    "more counts": begin([0, 1], "1 -1 0", 0),
    "drift that stays": begin([0, 1], "1 -1", 1),
    "all of it wrong": begin([99] * 70, "?", 4294967295),
}


class NotBegun(unittest.TestCase):
    def test_each_call_at_the_beginning(self):
        self.assertEqual(run(take(5)), [[-1]])
        self.assertEqual(run(STATE), [[-1]])
        self.assertEqual(run(reading(0)), [[-1]])
        self.assertEqual(run(reading(4294967295)), [[-1]])

    def test_refused_take_leaves_no_reading(self):
        given = run(take(5), STATE, reading(0), PLAN, STATE, reading(0), take(6), reading(0))
        self.assertEqual(given, [[-1], [-1], [-1], [0], [0, 3, 0, 4], [-5], [0], [0, 6]])

    def test_refused_begin_begins_nothing(self):
        for name, wrong in WRONG_BEGINS.items():
            with self.subTest(name):
                given = run(wrong, STATE, take(1), reading(0), STATE)
                self.assertEqual(given, [[-2], [-1], [-1], [-1], [-1]])


class WhileGoingOn(unittest.TestCase):
    ASKED = [STATE, reading(0), reading(1), reading(2), reading(3)]

    def stays(self, refused, number, taken):
        """A refused call, with all that can be asked ahead of it and behind it."""
        ahead = [PLAN] + [take(r) for r in taken]
        given = run(*ahead, *self.ASKED, refused, *self.ASKED)
        before = given[len(ahead):len(ahead) + len(self.ASKED)]
        behind = given[len(ahead) + len(self.ASKED) + 1:]
        self.assertEqual(given[len(ahead) + len(self.ASKED)], [number])
        self.assertEqual(before, behind)
        load = [4, 1, 2, -1][len(taken)]
        told = [[0, r] for r in taken] + [[-5]] * (4 - len(taken))
        self.assertEqual(behind, [[0, 3, len(taken), load]] + told)

    def test_refused_begin(self):
        for name, wrong in WRONG_BEGINS.items():
            for taken in ([], [10], [10, -20], [10, -20, 30]):
                with self.subTest(name, taken=taken):
                    self.stays(wrong, -2, taken)

    def test_take_when_finished(self):
        self.stays(take(40), -5, [10, -20, 30])
        self.stays(take(-2**63), -5, [10, -20, 30])

    def test_no_such_reading(self):
        for taken in ([], [10], [10, -20], [10, -20, 30]):
            with self.subTest(taken=taken):
                self.stays(reading(len(taken)), -5, taken)
                self.stays(reading(4294967295), -5, taken)

    def test_goes_on_behind_a_refused_begin(self):
        given = run(PLAN, take(1), WRONG_BEGINS["drift that stays"], take(2), STATE, take(3), take(4), reading(2))
        self.assertEqual(given[2:], [[-2], [0], [0, 3, 2, 2], [0], [-5], [0, 3]])

    def test_finished_again_and_again(self):
        given = run(PLAN, take(1), take(2), take(3), take(4), take(5), STATE, reading(2), reading(3))
        self.assertEqual(given[4:], [[-5], [-5], [0, 3, 3, -1], [0, 3], [-5]])


if __name__ == "__main__":
    unittest.main()
