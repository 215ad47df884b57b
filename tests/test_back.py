"""back: the first k readings stay."""

import unittest

from tests.helper import STATE, asked, back, begin, reading, run, says, says_all, take, weighed

PLAN = ([4, 1, 2], "1 -2 1", 1)
LOADS = [4, 1, 2, -1]
TAKEN = [10, -20, 30]
BASIS = ("1", "0", "0", "0")


class Stay(unittest.TestCase):
    def behind(self, taken, k, *calls):
        """What is answered from a back on."""
        ahead = weighed(*PLAN, taken)
        return run(*ahead, back(k), *calls)[len(ahead):]

    def test_each_number_that_may_stay(self):
        for many in range(4):
            for k in range(many + 1):
                with self.subTest(many=many, k=k):
                    given = self.behind(TAKEN[:many], k, STATE, *[reading(place) for place in range(4)])
                    told = [[0, r] for r in TAKEN[:k]] + [[-5]] * (4 - k)
                    self.assertEqual(given, [[0], [0, 3, k, LOADS[k]]] + told)

    def test_more_than_there_are(self):
        for many in range(4):
            for k in (many + 1, many + 2, 64, 65, 4294967295):
                with self.subTest(many=many, k=k):
                    given = self.behind(TAKEN[:many], k, STATE, *[reading(place) for place in range(4)])
                    told = [[0, r] for r in TAKEN[:many]] + [[-5]] * (4 - many)
                    self.assertEqual(given, [[-5], [0, 3, many, LOADS[many]]] + told)

    def test_no_more_than_now_though_there_were_more_once(self):
        given = self.behind(TAKEN, 1, back(2), STATE, back(1), STATE, reading(1))
        self.assertEqual(given, [[0], [-5], [0, 3, 1, 1], [0], [0, 3, 1, 1], [-5]])

    def test_take_again(self):
        given = self.behind(TAKEN, 1, take(7), STATE, reading(0), reading(1), reading(2), take(8), reading(2), take(9))
        self.assertEqual(given, [[0], [0], [0, 3, 2, 2], [0, 10], [0, 7], [-5], [0], [0, 8], [-5]])

    def test_all_anew(self):
        given = self.behind(TAKEN, 0, STATE, take(5), take(6), take(7), STATE, *[reading(k) for k in range(4)])
        expected = [[0], [0, 3, 0, 4], [0], [0], [0], [0, 3, 3, -1], [0, 5], [0, 6], [0, 7], [-5]]
        self.assertEqual(given, expected)

    def test_again_and_again(self):
        given = self.behind(TAKEN, 3, back(2), back(1), back(0), back(0), back(1), STATE)
        self.assertEqual(given, [[0], [0], [0], [0], [0], [-5], [0, 3, 0, 4]])

    def test_sixty_four_readings(self):
        taken = list(range(100, 164))
        ahead = weighed([5] * 64, " ".join(["1 -1"] * 32), 0, taken)
        given = run(*ahead, back(65), back(64), STATE, back(63), STATE, reading(62), reading(63))[len(ahead):]
        self.assertEqual(given, [[-5], [0], [0, 64, 64, -1], [0], [0, 64, 63, 5], [0, 162], [-5]])


class NothingBegun(unittest.TestCase):
    def test_at_the_beginning(self):
        self.assertEqual(run(back(0), STATE, back(1), back(4294967295)), [[-1]] * 4)

    def test_behind_a_refused_begin(self):
        self.assertEqual(run(begin([0], "1", 0), back(0), back(1)), [[-2], [-1], [-1]])

    def test_new_weighing_has_nothing_that_stays(self):
        given = run(*weighed(*PLAN, TAKEN), begin([1, 2], "1 -1", 0), back(1), back(0), STATE)
        self.assertEqual(given[4:], [[0], [-5], [0], [0, 2, 0, 1]])


class Said(unittest.TestCase):
    def test_not_finished_behind_back(self):
        given = asked(weighed(*PLAN, TAKEN) + [back(2)], *says_all(*BASIS))
        self.assertEqual(given, [-5, -5, -5])

    def test_finished_where_all_stay(self):
        self.assertEqual(asked(weighed(*PLAN, TAKEN) + [back(3)], says(0, *BASIS)), ["80"])
        self.assertEqual(asked(weighed(*PLAN, TAKEN) + [back(4)], says(0, *BASIS)), ["80"])

    def test_new_readings_are_counted(self):
        ahead = weighed(*PLAN, TAKEN) + [back(1), take(1), take(100)]
        self.assertEqual(asked(ahead, says(0, *BASIS)), ["108"])


if __name__ == "__main__":
    unittest.main()
