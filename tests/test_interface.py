import contextlib
import inspect
import io
import sys
import unittest

from ropeline.hills import Line, answers
from tests.asking import BEST, TALLEST, Words, apart, ask, begins, check, rope

HIGH = (1, 4, 3, 1, [0, 3, 1, 5, 2, 6, 0, 1])


class ReadOnly(list):
    """A list that shows every try to change it, be it for a while only."""

    def refuse(self, *given):
        raise AssertionError("what is handed in was changed")

    append = extend = insert = pop = remove = clear = sort = reverse = refuse
    __setitem__ = __delitem__ = __iadd__ = __imul__ = refuse


def every_call():
    calls = [begins(*HIGH), BEST, check(0, 0, 0, 0, 0, 0), TALLEST, rope(3, 0, 0, 0, 0, 0, 0), begins(5, 0, 0, 0, [])]
    return [number for call in calls for number in call]


class Interface(unittest.TestCase):
    def test_its_name_and_argument(self):
        self.assertEqual(list(inspect.signature(answers).parameters), ["calls"])
        self.assertEqual(answers.__module__, "ropeline.hills")

    def test_how_answers_are_given_back(self):
        calls = [0, 0, 1, 10, 3, 3, 0, 5, 0, 1, 2, 1, 1, 2, 1, 0, 3, 4, 1, 1, 1, 2, 0, 4, 3, 1, 0]
        expected = [1, 0, 4, 13, 1, 1, 1, 2, 13, 1, 2, -6, 1, 1, 1, 2, 6, 1, 1, -1, 1, -1]
        self.assertEqual(answers(calls), expected)

    def test_lifting_is_given_back_with_its_point(self):
        self.assertEqual(answers([0, 0, 1, 0, 0, 3, 5, 0, 5, 2, 1, 1]), [1, 0, 2, -7, 1])

    def test_whole_numbers_in_a_list(self):
        given = answers(every_call())
        self.assertIs(type(given), list)
        self.assertEqual({type(number) for number in given}, {int})

    def test_the_calls_on_a_new_line(self):
        self.assertEqual(answers([1]), [3, 0, 0, 1])
        self.assertEqual(answers([3]), [1, 0])
        self.assertEqual(ask(check(), check(0), check(1)), [[0, 0], [-1], [-1]])
        self.assertEqual(ask(rope(0), rope(1), rope(2), rope(0, 0)), [[0, 1], [0, 1], [-1], [-1]])

    def test_a_new_line(self):
        # With two points no call shows what is told of supports, so the line itself is asked.
        line = Line()
        self.assertEqual((line.clearance, line.tall, line.each, line.unit, line.ground), (0, 1, 0, 0, [0, 0]))

    def test_what_is_handed_in_is_not_changed(self):
        calls = every_call()
        before = list(calls)
        answers(calls)
        self.assertEqual(calls, before)
        self.assertEqual(answers(ReadOnly(calls)), answers(calls))

    def test_what_is_given_back_is_not_what_was_handed_in(self):
        calls = every_call()
        first = answers(calls)
        second = list(first)
        first.clear()
        self.assertEqual(answers(calls), second)

    def test_nothing_is_kept_from_one_time_to_the_next(self):
        calls = every_call()
        first = answers(calls)
        self.assertEqual(answers(calls), first)
        self.assertEqual(answers([1]), [3, 0, 0, 1])
        self.assertEqual(answers([2, 0]), [2, 0, 0])
        self.assertEqual(answers([4, 1, 0]), [2, 0, 1])

    def test_it_prints_and_reads_nothing_and_brings_in_no_module(self):
        shown = io.StringIO()
        told = io.StringIO("unread")
        modules = set(sys.modules)
        kept = sys.stdin
        sys.stdin = told
        try:
            with contextlib.redirect_stdout(shown), contextlib.redirect_stderr(shown):
                answers(every_call())
        finally:
            sys.stdin = kept
        self.assertEqual((shown.getvalue(), told.tell()), ("", 0))
        self.assertEqual(set(sys.modules), modules)

    def test_forty_calls_of_720_numbers(self):
        calls = begins(5, 1, 1, 1, [0] * 12) * 40
        self.assertEqual(len(calls), 720)
        self.assertEqual(apart(answers(calls)), [[-1]] * 40)

    def test_forty_calls_one_behind_another(self):
        calls = []
        expected = []
        for turn in range(10):
            line = Words(turn % 5, 4, turn, 1, [0, turn % 10, 5, 0])
            calls += [begins(line.clear, 4, turn, 1, line.ground), BEST, check(4, 4), rope(1, 0, 4)]
            expected += [[0], line.best(), line.check((4, 4)), line.rope((0, 4), 1)]
        self.assertEqual(len(calls), 40)
        self.assertEqual(ask(*calls), expected)

    def test_long_lists_are_gone_through_by_loops(self):
        calls = begins(*HIGH) + rope(3, 0, 0, 0, 0, 0, 0) * 39
        limit = sys.getrecursionlimit()
        sys.setrecursionlimit(len(inspect.stack()) + 25)
        try:
            given = answers(calls)
        finally:
            sys.setrecursionlimit(limit)
        self.assertEqual(apart(given), [[0]] + [[10, 7]] * 39)

    def test_best_and_tallest_as_often_as_any(self):
        words = Words(*HIGH)
        asked = ask(begins(*HIGH), *[BEST, TALLEST] * 19, BEST)
        self.assertEqual(asked, [[0]] + [words.best(), [1]] * 19 + [words.best()])

    def test_best_39_times_on_a_line_with_many_right_plans(self):
        line = (0, 4, 0, 0, [0, 4, 7, 9, 9, 7, 4, 0])
        self.assertEqual(ask(begins(*line), *[BEST] * 39), [[0]] + [Words(*line).best()] * 39)


if __name__ == "__main__":
    unittest.main()
