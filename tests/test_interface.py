"""How answers(calls) deals with what is handed in, and with all around it."""

import ast
import builtins
import contextlib
import inspect
import io
import pathlib
import sys
import unittest
from unittest import mock

import planbeam
from planbeam.weighing import answers
from tests.helper import (STATE, as_text, back, begin, comes, line, reading, run, says, says_all, split_answers, take,
                          told, weighed)

PACKAGE = pathlib.Path(planbeam.__file__).parent
CALLS = line(
    STATE, take(1), reading(0), back(0), comes(0), says(0, "1", "0", "0", "0"),
    begin([0, 1, 1, 0], "-1/2 1/2 1/2 -0.5", 1), take(-4), STATE, reading(0), reading(1),
    begin([16], "0", 0), take(2**63 - 1), take(0), take(7), take(8), STATE, reading(3),
    *says_all("-1/3", "1/7", "0.5", "1/12"), says(3, "1", "1", "1", "1"), says(1, "1", "-1", "x", ""),
    comes(0), comes(1), comes(2), comes(16), back(5), back(2), STATE, says(0, "1", "0", "0", "0"), take(5), take(-6),
    *says_all("2", "0", "0", "0"), says(2, "1/" + "7" * 510, "0", "0", "1/" + "7" * 510),
    begin([2], "0/7", 8), STATE, back(1), back(0), comes(2),
)
CHANGES = ["append", "clear", "extend", "insert", "pop", "remove", "reverse", "sort",
           "__setitem__", "__delitem__", "__iadd__", "__imul__"]


class WatchedList(list):
    """A list that bears no change, not for a while either."""


def refuse_change(self, *args, **kwargs):
    raise AssertionError("the list handed in was changed")


for change in CHANGES:
    setattr(WatchedList, change, refuse_change)


class HandedIn(unittest.TestCase):
    def test_same_afterwards(self):
        calls = list(CALLS)
        answers(calls)
        self.assertEqual(calls, CALLS)

    def test_not_changed_for_a_while_either(self):
        self.assertEqual(answers(WatchedList(CALLS)), answers(list(CALLS)))

    def test_answers_are_a_list_of_their_own(self):
        calls = list(CALLS)
        given = answers(calls)
        kept = list(given)
        calls.clear()
        self.assertEqual(given, kept)
        given.clear()
        self.assertEqual(answers(CALLS), kept)


class NothingKept(unittest.TestCase):
    def test_second_time_answers_the_same(self):
        calls = list(CALLS)
        first = answers(calls)
        self.assertEqual(answers(calls), first)
        self.assertEqual(answers(list(CALLS)), first)

    def test_each_list_begins_without_a_weighing(self):
        run(*weighed([0, 1], "1 -1", 0, [5, 6]))
        given = run(STATE, reading(0), take(1), back(0), comes(0), says(0, "1", "0", "0", "0"))
        self.assertEqual(given, [[-1]] * 6)

    def test_first_time_does_not_touch_the_second(self):
        first = answers(begin([0, 1], "1 -1", 0) + take(5) + STATE)
        answers(begin([3], "0", 0) + take(9))
        self.assertEqual(answers(begin([0, 1], "1 -1", 0) + take(5) + STATE), first)


class LongLists(unittest.TestCase):
    def test_four_hundred_calls(self):
        given = run(*[STATE] * 400)
        self.assertEqual(given, [[-1]] * 400)

    def test_four_hundred_calls_of_every_kind(self):
        calls = []
        expected = []
        for number in range(20):
            calls += weighed([0, 1, 0], "1 -2 1", 1, [number, 5, 1 - number])
            expected += [[0]] * 4
            calls += says_all("1/2", "1", "1", "3") + [comes(0), comes(1), comes(16), STATE, back(4)]
            expected += [told("-9/2"), told("15"), told("221/6"), told("2"), told("-2"), [-1], [0, 3, 3, -1], [-5]]
            calls += [back(1), says(0, "1", "0", "0", "0"), take(7), reading(1), take(-number), take(1), reading(2),
                      says(0, "-1", "0", "0", "0")]
            expected += [[0], [-5], [0], [0, 7], [0], [-5], [0, -number], told("14")]
        self.assertEqual(len(calls), 400)
        self.assertLess(len(line(*calls)), 16000)
        self.assertEqual(run(*calls), expected)
        whole = line(*calls)
        first = answers(whole)
        self.assertEqual(answers(whole), first)
        self.assertEqual(whole, line(*calls))

    def test_long_rows_of_says(self):
        ahead = weighed([0, 1], "1 -1", 0, [8, 7])
        behind = says(0, "3", "0", "0", "0")
        for place in range(4):
            texts = ["1"] * 4
            texts[place] = "1" * 8000
            self.assertEqual(run(*ahead, says(0, *texts), behind)[3:], [[-1], told("3")])
        self.assertEqual(run(*ahead, says(0, "1" * 4000, "2" * 4000, "3" * 4000, "4" * 3900), behind)[3:],
                         [[-1], told("3")])
        longest = says(0, "9" * 512, "8" * 512, "7" * 512, "6" * 512)
        self.assertEqual(run(*ahead, *[longest] * 7, behind)[3:], [told("9" * 512)] * 7 + [told("3")])

    def test_empty_rows_of_says(self):
        self.assertEqual(run(says(0, "", "", "", ""), begin([7], "0", 0), STATE), [[-1], [0], [0, 1, 0, 7]])
        ahead = weighed([0, 1], "1 -1", 0, [8, 7])
        self.assertEqual(run(*ahead, says(0, "", "", "", ""), STATE)[3:], [[-1], [0, 2, 2, -1]])

    def test_next_call_is_found_behind_long_rows(self):
        given = run(begin([0] * 8000, "0" * 7970, 0), STATE, begin([7], "0", 0), STATE)
        self.assertEqual(given, [[-2], [-1], [0], [0, 1, 0, 7]])

    def test_rows_that_look_like_calls(self):
        given = run(begin([2, 1, 3, 0], "0 0 0 0", 0), STATE, begin([2, 2, 2], [2, 2, 2, 1, 1], 0), STATE)
        self.assertEqual(given, [[0], [0, 4, 0, 2], [-2], [0, 4, 0, 2]])

    def test_empty_rows(self):
        given = run(begin([], [], 0), STATE, begin([0], [], 0), STATE, begin([], "0", 0), STATE)
        self.assertEqual(given, [[-2], [-1]] * 3)

    def test_gone_through_by_loops(self):
        plan = begin([0] * 64, " ".join(["0" * 63] * 63 + ["0" * 64]), 8)
        one_long_count = begin([0], "0." + "0" * 510, 0)
        great = says_all("9" * 512, "1/" + "8" * 510, "7" * 512, "6" * 512)
        calls = line(plan, *[take(1)] * 64, *[STATE] * 200, *great, comes(0), begin([0] * 3000, "0" * 500, 0),
                     one_long_count)
        self.assertLess(len(calls), 16000)
        limit = sys.getrecursionlimit()
        sys.setrecursionlimit(len(inspect.stack()) + 40)
        try:
            given = answers(calls)
        finally:
            sys.setrecursionlimit(limit)
        self.assertEqual(split_answers(given)[-2:], [[-2], [0]])

    def test_many_great_plans(self):
        bottoms = " ".join(f"1/{4294967295 - step} -1/{4294967295 - step}" for step in range(32))
        plan = begin([15] * 64, bottoms, 0)
        self.assertEqual(run(*[plan] * 16), [[0]] * 16)
        high = begin([0] * 64, as_text([0] * 64), 8)
        self.assertEqual(run(*[high] * 80), [[0]] * 80)


class NothingAround(unittest.TestCase):
    def test_prints_reads_and_imports_nothing_when_called(self):
        def refuse(*args, **kwargs):
            raise AssertionError("reached outside")

        out = io.StringIO()
        err = io.StringIO()
        expected = answers(CALLS)
        with contextlib.redirect_stdout(out), contextlib.redirect_stderr(err):
            with mock.patch.object(builtins, "open", refuse), mock.patch.object(builtins, "input", refuse), \
                    mock.patch.object(builtins, "__import__", refuse):
                given = answers(CALLS)
        self.assertEqual(given, expected)
        self.assertEqual((out.getvalue(), err.getvalue()), ("", ""))

    def test_draws_from_its_own_files_alone(self):
        for path in sorted(PACKAGE.rglob("*.py")):
            for node in ast.walk(ast.parse(path.read_text(encoding="utf-8"))):
                self.assertNotIsInstance(node, ast.Import, path.name)
                if isinstance(node, ast.ImportFrom):
                    self.assertEqual(node.level, 0, path.name)
                    self.assertTrue(node.module.startswith("planbeam."), path.name)


class WrittenForm(unittest.TestCase):
    """What of the language's rules can be counted: sizes and signs."""

    def test_sizes_and_signs(self):
        for path in sorted(PACKAGE.rglob("*.py")):
            source = path.read_text(encoding="utf-8")
            rows = source.split("\n")
            self.assertLessEqual(len(rows), 400, path.name)
            self.assertLessEqual(max(len(row) for row in rows), 120, path.name)
            self.assertTrue(all(sign == "\n" or " " <= sign <= "~" for sign in source), path.name)
            for node in ast.walk(ast.parse(source)):
                if isinstance(node, ast.FunctionDef):
                    self.assertLessEqual(node.end_lineno - node.lineno + 1, 40, node.name)


if __name__ == "__main__":
    unittest.main()
