"""The document's own run, and other ordinary lists of begin, take, state and reading."""

import unittest

from planbeam.weighing import answers
from tests.helper import STATE, begin, comes, line, reading, run, says, says_all, take, told

PLAN = begin([0, 1, 1, 0], "-1/2 1/2 1/2 -1/2", 1)


class DocumentRun(unittest.TestCase):
    UNDER_WAY = [PLAN, take(1000), take(1503), take(1505)]
    FINISHED = UNDER_WAY + [take(1006)]

    def test_answers_of_the_run(self):
        asked = says_all("1/1000", "0", "1/2", "1/12")
        given = run(*self.UNDER_WAY, asked[0], STATE, take(1006), comes(0), comes(1), *asked)
        self.assertEqual(given, [
            [0], [0], [0], [0], [-5], [0, 4, 3, 0], [0], told("-1"), told("1"),
            told("501/1000"), told("1/1000"), told("1/12000000"),
        ])

    def test_answers_with_a_bound_for_the_worth(self):
        given = run(*self.FINISHED, *says_all("1/1000", "1/1000000", "1/2", "1/12"))
        # 501 divisions, 1 of reach: 1/12000000 + (501/1000000)**2 / 3 + (1/1000000)**2 / 3
        self.assertEqual(given[5:], [told("501/1000"), told("751/500000"), told("250501/1500000000000")])

    def test_end_of_the_run_as_it_is_given_back(self):
        calls = line(*self.FINISHED, comes(0), says(1, "1/1000", "1/1000000", "1/2", "1/12"), STATE)
        self.assertEqual(answers(calls)[10:], [
            3, 2, 45, 49,
            11, 10, 55, 53, 49, 47, 53, 48, 48, 48, 48, 48,
            4, 0, 4, 4, -1,
        ])

    def test_end_of_the_run_as_it_is_handed_in(self):
        calls = line(*self.FINISHED) + [
            5, 1,
            6, 0, 6, 49, 47, 49, 48, 48, 48, 1, 48, 3, 49, 47, 50, 4, 49, 47, 49, 50,
            4, 3,
            2,
        ]
        self.assertEqual(answers(calls)[10:], [
            2, 1, 49,
            9, 8, 53, 48, 49, 47, 49, 48, 48, 48,
            1, 0,
            4, 0, 4, 3, 0,
        ])

    def test_list_as_it_is_given_back(self):
        calls = line(PLAN, take(1000), take(1503), STATE, reading(1), reading(2))
        self.assertEqual(answers(calls), [1, 0, 1, 0, 1, 0, 4, 0, 4, 2, 1, 2, 0, 1503, 1, -5])

    def test_list_as_it_is_handed_in(self):
        calls = [0, 0, 2, 7, 9, 4, 49, 32, 45, 49, 1, -5, 2, 3, 0]
        self.assertEqual(answers(calls), [1, 0, 1, 0, 4, 0, 2, 1, 9, 2, 0, -5])

    def test_whole_numbers_and_lists(self):
        given = answers(line(PLAN, take(5), STATE, reading(0), reading(1)))
        given += answers(line(*self.FINISHED, comes(0), comes(16), *says_all("2", "1", "1", "1")))
        self.assertIs(type(given), list)
        self.assertEqual({type(number) for number in given}, {int})


class Readings(unittest.TestCase):
    def test_each_reading_in_its_place(self):
        taken = [1000, -1503, 0, 1006]
        given = run(PLAN, *[take(r) for r in taken], *[reading(k) for k in range(4)])
        self.assertEqual(given[5:], [[0, r] for r in taken])

    def test_extreme_readings(self):
        for r in (-2**63, -2**63 + 1, -1, 0, 1, 2**63 - 2, 2**63 - 1):
            with self.subTest(r=r):
                self.assertEqual(run(PLAN, take(r), reading(0)), [[0], [0], [0, r]])

    def test_last_reading_and_the_first_that_is_not(self):
        self.assertEqual(run(PLAN, reading(0)), [[0], [-5]])
        given = run(PLAN, take(11), take(12), reading(1), reading(2))
        self.assertEqual(given[3:], [[0, 12], [-5]])
        full = run(PLAN, take(1), take(2), take(3), take(4), reading(3), reading(4), reading(4294967295))
        self.assertEqual(full[5:], [[0, 4], [-5], [-5]])

    def test_asking_changes_nothing(self):
        given = run(PLAN, take(11), reading(0), STATE, reading(0), STATE, take(12), reading(1))
        self.assertEqual(given[2:], [[0, 11], [0, 4, 1, 1], [0, 11], [0, 4, 1, 1], [0], [0, 12]])


class State(unittest.TestCase):
    def test_before_during_and_at_the_end(self):
        given = run(STATE, begin([3, 15, 0], "1 -2 1", 1), STATE, take(1), STATE, take(2), STATE, take(3), STATE)
        told = [given[0]] + given[2::2]
        self.assertEqual(told, [[-1], [0, 3, 0, 3], [0, 3, 1, 15], [0, 3, 2, 0], [0, 3, 3, -1]])

    def test_one_step(self):
        given = run(begin([15], "0", 0), STATE, take(-7), STATE, reading(0))
        self.assertEqual(given, [[0], [0, 1, 0, 15], [0], [0, 1, 1, -1], [0, -7]])

    def test_all_of_sixty_four_steps(self):
        loads = [step % 16 for step in range(64)]
        calls = [begin(loads, " ".join(["1", "-1"] * 32), 0)]
        expected = [[0]]
        for step in range(64):
            calls += [STATE, take(step * step - 1000)]
            expected += [[0, 64, step, loads[step]], [0]]
        calls += [STATE, take(0)] + [reading(step) for step in range(65)]
        expected += [[0, 64, 64, -1], [-5]] + [[0, step * step - 1000] for step in range(64)] + [[-5]]
        self.assertEqual(run(*calls), expected)


class NewWeighing(unittest.TestCase):
    OTHER = begin([5, 6], "2 -2", 0)

    def test_in_place_of_one_that_is_going_on(self):
        given = run(PLAN, take(1), take(2), self.OTHER, STATE, reading(0), take(9), STATE, reading(0), take(8), take(7))
        self.assertEqual(given[3:], [[0], [0, 2, 0, 5], [-5], [0], [0, 2, 1, 6], [0, 9], [0], [-5]])

    def test_in_place_of_one_that_is_finished(self):
        given = run(self.OTHER, take(1), take(2), PLAN, STATE, reading(0), take(3), STATE, reading(0))
        self.assertEqual(given[3:], [[0], [0, 4, 0, 0], [-5], [0], [0, 4, 1, 1], [0, 3]])

    def test_same_plan_again_starts_without_readings(self):
        given = run(PLAN, take(1), PLAN, STATE, reading(0))
        self.assertEqual(given[2:], [[0], [0, 4, 0, 0], [-5]])


if __name__ == "__main__":
    unittest.main()
