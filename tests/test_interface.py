import contextlib
import inspect
import io
import sys
import unittest

from bychancedesk.house import NoSuchCall, answers
from tests.helper import LARGEST, act, begins, chance, cheap, cost, judge, likely, line

LINE = line([begins(4, [3]), act(0, 1, 1, 1, 3, 2), act(1, 5, 0, 1, 2, 1), act(2, 7, 3, 1), act(9, 1, 1, 1),
             chance(0), cost(0), cost(1), chance(7), likely(), cheap(), judge(0, 0, 0, 1, 1, 2, 2), judge(0, 0, 0),
             act(0, 2, 3, 1), likely(), cheap(), judge(0, 0, 3), judge(4, 0), judge(1, 0), begins(2, [1, 0]),
             begins(3, [0]), cost(1), cost(0), cheap(), judge(0, LARGEST, LARGEST)])


class Untouched(list):
    """A list that fails as soon as anything would change it."""

    def fail(self, *args, **kwargs):
        raise AssertionError("the list that was handed in is changed")

    append = clear = extend = insert = pop = remove = reverse = sort = fail
    __setitem__ = __delitem__ = __iadd__ = __imul__ = fail


class Layout(unittest.TestCase):
    def test_how_many_numbers_then_these(self):
        calls = [0, 2, 1, 1, 1, 0, 5, 4, 0, 1, 1, 2, 2, 0, 3, 0, 2, 2, 3, 2, 0, 7, 0]
        self.assertEqual(answers(calls), [1, 0, 1, 0, 3, 0, 1, 1, 3, 0, 15, 2, 1, -2, 1, -2, 1, -1])

    def test_rows_of_no_and_of_twenty_numbers(self):
        calls = [0, 1, 0, 1, 0, 1, 0, 0, 6, 20, *range(20), 1, 0, 1, 20, *[LARGEST] * 20, 2, 0]
        self.assertEqual(answers(calls), [1, 0, 1, -1, 1, -1, 1, -1, 3, 0, 0, 1])
        calls = [0, 1, 1, 0, 6, 0, 0, 6, 0, 20, *[LARGEST] * 20, 6, 1, 20, *range(20), 4]
        self.assertEqual(answers(calls), [1, 0, 5, 1, 1, 1, 0, 1, 5, 1, 1, 1, 0, 1, 1, -2, 1, 0])

    def test_rules_and_what_is_judged(self):
        calls = [0, 4, 1, 3, 1, 1, 5, 4, 1, 1, 3, 2, 1, 0, 6, 4, 1, 1, 2, 1, 4, 5, 6, 0, 4, 0, 1, 1, 0, 6, 1, 2, 1, 0,
                 6, 4, 1, 0, 6, 0, 1, 0]
        self.assertEqual(answers(calls), [1, 0, 1, 0, 1, 1, 5, 2, 0, 1, 1, 0, 3, 1, 1, 0, 3, 0, 1, 2,
                                          5, 1, 1, 1, 15, 2, 1, -2, 1, -1])

    def test_numbers_within_a_row_are_no_calls(self):
        calls = [0, 4, 4, 0, 1, 2, 3, 1, 2, 3, 6, 0, 1, 1, 2, 2, 3, 2, 3]
        self.assertEqual(answers(calls), [1, 0, 1, 0, 3, 0, 1, 1])
        self.assertEqual(answers([6, 0, 6, 4, 5, 6, 0, 2, 0, 5, 4]), [3, 0, 0, 1, 1, 0, 1, 0])

    def test_one_call(self):
        self.assertEqual(answers([2, 0]), [3, 0, 0, 1])
        self.assertEqual(answers([2, LARGEST]), [1, -2])
        self.assertEqual(answers([3, 0]), [1, -6])
        self.assertEqual(answers([3, LARGEST]), [1, -2])
        self.assertEqual(answers([4]), [1, 0])
        self.assertEqual(answers([5]), [1, 0])
        self.assertEqual(answers([6, 0, 0]), [3, 0, 0, 1])
        self.assertEqual(answers([6, LARGEST, 0]), [1, -2])
        self.assertEqual(answers([6, 0, 1, LARGEST]), [1, -1])
        self.assertEqual(answers([0, LARGEST, 0]), [1, -1])
        self.assertEqual(answers([1, LARGEST, LARGEST, 0]), [1, -1])

    def test_the_beginning(self):
        calls = line([chance(0), chance(1), cost(0), act(0, 1, 0, 1), act(1, 1, 0, 1), act(0, 1, 1, 1), chance(0)])
        self.assertEqual(answers(calls), [3, 0, 0, 1, 1, -2, 1, -6, 1, 0, 1, -1, 1, -1, 3, 0, 0, 1])

    def test_whole_numbers_in_a_list(self):
        told = answers(LINE)
        self.assertIs(type(told), list)
        self.assertEqual({type(number) for number in told}, {int})

    def test_no_other_call(self):
        with self.assertRaises(NoSuchCall):
            answers([7])


class NothingElse(unittest.TestCase):
    def test_what_is_handed_in_is_never_changed(self):
        handed = Untouched(LINE)
        told = answers(handed)
        self.assertEqual(list(handed), LINE)
        self.assertEqual(told, answers(list(LINE)))

    def test_what_is_given_back_is_not_what_is_handed_in(self):
        calls = list(LINE)
        answers(calls).clear()
        self.assertEqual(calls, LINE)

    def test_a_second_time_answers_as_the_first(self):
        first = answers(LINE)
        self.assertEqual(answers([2, 0, 2, 1]), [3, 0, 0, 1, 1, -2])
        self.assertEqual(answers(line([begins(6, [5]), *[act(0, 1, 5, 1)] * 12]))[-1], 11)
        self.assertEqual(answers([1, 0, 1, 2, 0, 1, 2, 1, 2, 0]), [1, 0, 1, -2, 3, 0, 0, 1])
        self.assertEqual(answers(LINE), first)

    def test_changing_what_was_given_back_changes_no_later_answer(self):
        first = answers(LINE)
        kept = list(first)
        first.clear()
        self.assertEqual(answers(LINE), kept)

    def test_prints_nothing(self):
        out, err = io.StringIO(), io.StringIO()
        with contextlib.redirect_stdout(out), contextlib.redirect_stderr(err):
            answers(LINE)
        self.assertEqual((out.getvalue(), err.getvalue()), ("", ""))

    def test_reads_nothing(self):
        kept = sys.stdin
        sys.stdin = None
        try:
            self.assertTrue(answers(LINE))
        finally:
            sys.stdin = kept

    def test_imports_nothing(self):
        before = set(sys.modules)
        answers(LINE)
        self.assertEqual(set(sys.modules), before)

    def test_the_longest_line_nests_few_calls(self):
        acts = [act(0, 100, 0, 20, 1, 1)] + [act(state, 100, 0, 20, state + 1, 1) for state in range(1, 5)]
        acts += [act(state, 99, 0, 1, 1, 1, 2, 1, 3, 1, 4, 1, 5, 1) for state in range(5)] + [act(0, 1, *[0] * 20)]
        calls = [begins(6, [5]), *acts, *[chance(0), cost(0), likely(), cheap()] * 3]
        calls += [judge(0, *[0, 0, 1, 1, 2, 2, 3, 3, 4, 4] * 2), judge(0, *[LARGEST] * 20)] * 8
        calls += [act(0, 1, *[LARGEST] * 20)] * (60 - len(calls))
        numbers = line(calls)
        self.assertLessEqual(len(numbers), 1500)
        kept = sys.getrecursionlimit()
        sys.setrecursionlimit(len(inspect.stack()) + 40)
        try:
            told = answers(numbers)
        finally:
            sys.setrecursionlimit(kept)
        self.assertEqual(told, answers(numbers))


if __name__ == "__main__":
    unittest.main()
