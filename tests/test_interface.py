"""How answers(calls) deals with what is handed in, and with all around it."""

import ast
import builtins
import contextlib
import inspect
import io
import pathlib
import sys
import unittest
from unittest import mock

import planbeam
from planbeam.weighing import answers
from tests.helper import STATE, as_text, begin, line, reading, run, split_answers, take

PACKAGE = pathlib.Path(planbeam.__file__).parent
CALLS = line(
    STATE, take(1), reading(0),
    begin([0, 1, 1, 0], "-1/2 1/2 1/2 -0.5", 1), take(-4), STATE, reading(0), reading(1),
    begin([16], "0", 0), take(2**63 - 1), take(0), take(7), take(8), STATE, reading(3),
    begin([2], "0/7", 8), STATE,
)
CHANGES = ["append", "clear", "extend", "insert", "pop", "remove", "reverse", "sort",
           "__setitem__", "__delitem__", "__iadd__", "__imul__"]


class WatchedList(list):
    """A list that bears no change, not for a while either."""


def refuse_change(self, *args, **kwargs):
    raise AssertionError("the list handed in was changed")


for change in CHANGES:
    setattr(WatchedList, change, refuse_change)


class HandedIn(unittest.TestCase):
    def test_same_afterwards(self):
        calls = list(CALLS)
        answers(calls)
        self.assertEqual(calls, CALLS)

    def test_not_changed_for_a_while_either(self):
        self.assertEqual(answers(WatchedList(CALLS)), answers(list(CALLS)))

    def test_answers_are_a_list_of_their_own(self):
        calls = list(CALLS)
        given = answers(calls)
        kept = list(given)
        calls.clear()
        self.assertEqual(given, kept)
        given.clear()
        self.assertEqual(answers(CALLS), kept)


class NothingKept(unittest.TestCase):
    def test_second_time_answers_the_same(self):
        calls = list(CALLS)
        first = answers(calls)
        self.assertEqual(answers(calls), first)
        self.assertEqual(answers(list(CALLS)), first)

    def test_each_list_begins_without_a_weighing(self):
        run(begin([0, 1], "1 -1", 0), take(5))
        self.assertEqual(run(STATE, reading(0), take(1)), [[-1], [-1], [-1]])

    def test_first_time_does_not_touch_the_second(self):
        first = answers(begin([0, 1], "1 -1", 0) + take(5) + STATE)
        answers(begin([3], "0", 0) + take(9))
        self.assertEqual(answers(begin([0, 1], "1 -1", 0) + take(5) + STATE), first)


class LongLists(unittest.TestCase):
    def test_four_hundred_calls(self):
        given = run(*[STATE] * 400)
        self.assertEqual(given, [[-1]] * 400)

    def test_next_call_is_found_behind_long_rows(self):
        given = run(begin([0] * 8000, "0" * 7970, 0), STATE, begin([7], "0", 0), STATE)
        self.assertEqual(given, [[-2], [-1], [0], [0, 1, 0, 7]])

    def test_rows_that_look_like_calls(self):
        given = run(begin([2, 1, 3, 0], "0 0 0 0", 0), STATE, begin([2, 2, 2], [2, 2, 2, 1, 1], 0), STATE)
        self.assertEqual(given, [[0], [0, 4, 0, 2], [-2], [0, 4, 0, 2]])

    def test_empty_rows(self):
        given = run(begin([], [], 0), STATE, begin([0], [], 0), STATE, begin([], "0", 0), STATE)
        self.assertEqual(given, [[-2], [-1]] * 3)

    def test_gone_through_by_loops(self):
        plan = begin([0] * 64, " ".join(["0" * 63] * 63 + ["0" * 64]), 8)
        one_long_count = begin([0], "0." + "0" * 510, 0)
        calls = line(plan, *[take(1)] * 64, *[STATE] * 200, begin([0] * 4000, "0" * 4000, 0), one_long_count)
        limit = sys.getrecursionlimit()
        sys.setrecursionlimit(len(inspect.stack()) + 40)
        try:
            given = answers(calls)
        finally:
            sys.setrecursionlimit(limit)
        self.assertEqual(split_answers(given)[-2:], [[-2], [0]])

    def test_many_great_plans(self):
        bottoms = " ".join(f"1/{4294967295 - step} -1/{4294967295 - step}" for step in range(32))
        plan = begin([15] * 64, bottoms, 0)
        self.assertEqual(run(*[plan] * 16), [[0]] * 16)
        high = begin([0] * 64, as_text([0] * 64), 8)
        self.assertEqual(run(*[high] * 80), [[0]] * 80)


class NothingAround(unittest.TestCase):
    def test_prints_reads_and_imports_nothing_when_called(self):
        def refuse(*args, **kwargs):
            raise AssertionError("reached outside")

        out = io.StringIO()
        err = io.StringIO()
        expected = answers(CALLS)
        with contextlib.redirect_stdout(out), contextlib.redirect_stderr(err):
            with mock.patch.object(builtins, "open", refuse), mock.patch.object(builtins, "input", refuse), \
                    mock.patch.object(builtins, "__import__", refuse):
                given = answers(CALLS)
        self.assertEqual(given, expected)
        self.assertEqual((out.getvalue(), err.getvalue()), ("", ""))

    def test_draws_from_its_own_files_alone(self):
        for path in sorted(PACKAGE.rglob("*.py")):
            for node in ast.walk(ast.parse(path.read_text(encoding="utf-8"))):
                self.assertNotIsInstance(node, ast.Import, path.name)
                if isinstance(node, ast.ImportFrom):
                    self.assertEqual(node.level, 0, path.name)
                    self.assertTrue(node.module.startswith("planbeam."), path.name)


class WrittenForm(unittest.TestCase):
    """What of the language's rules can be counted: sizes and signs."""

    def test_sizes_and_signs(self):
        for path in sorted(PACKAGE.rglob("*.py")):
            source = path.read_text(encoding="utf-8")
            rows = source.split("\n")
            self.assertLessEqual(len(rows), 400, path.name)
            self.assertLessEqual(max(len(row) for row in rows), 120, path.name)
            self.assertTrue(all(sign == "\n" or " " <= sign <= "~" for sign in source), path.name)
            for node in ast.walk(ast.parse(source)):
                if isinstance(node, ast.FunctionDef):
                    self.assertLessEqual(node.end_lineno - node.lineno + 1, 40, node.name)


if __name__ == "__main__":
    unittest.main()
