import contextlib
import inspect
import io
import sys
import unittest

from firstbad.search import answers
from tests.helper import (
    BAD, COUNT, FORK, GOOD, GREATEST, LEFT, LIST, NEXT, REST, SKIPPED, UNDO, add, before, is_lawful, joined, line, mark,
    rows, skipped, split, start)


class Untouchable(list):
    """A list that tells of any try to change it, even of one that would be made good again."""

    def refuse(self, *given, **named):
        raise AssertionError("what is handed in was changed")

    append = extend = insert = pop = remove = clear = sort = reverse = refuse
    __setitem__ = __delitem__ = __iadd__ = __imul__ = refuse


CALLS = FORK + [
    COUNT, add(9), add(0, 0, 0, 0, 0), before(0, 6), before(2, 3), before(0, GREATEST), UNDO, mark(0, BAD),
    LEFT, LIST, NEXT, split(7), split(6), REST, start(6), LIST, NEXT, REST, split(4),
    mark(2, GOOD), add(6), NEXT, mark(4, BAD), mark(6, GOOD), LIST, mark(3, SKIPPED), NEXT, REST, LEFT, UNDO, NEXT, UNDO,
    LIST, start(7), LEFT, split(7), UNDO, start(0), NEXT, LIST, start(8)]

MIXED = joined(CALLS)

MIXED_ANSWERS = [
    [0], [1], [2], [3], [4], [5], [6],
    [7], [-1], [-1], [1], [0], [-1], [-3], [-3],
    [-3], [-3], [-3], [-1], [-3], [-3], [7], [0, 1, 2, 3, 4, 5, 6], [2], [3], [4],
    [4], [7], [4], [2], [-4], [3, 4], [2], [-7], [0], [2], [1], [3], [1],
    [3, 4, 5, 6], [8], [8], [8], [0], [1], [-6], [0], [-1]]


class InterfaceTest(unittest.TestCase):
    def test_each_answer_has_its_count_before_it(self):
        self.assertEqual(answers([1]), [1, 0])
        self.assertEqual(answers([0, 0, 0, 1, 0, 3, 1, 4, 0, 0, 4, 1, 0, 5, 2, 1, 0]),
                         [1, 0, 1, 1, 1, 2, 1, 1, 1, -4, 1, 1, 1, 0])

    def test_any_call_may_come_first(self):
        firsts = (
            (add(), 0), (COUNT, 0), (before(0, 0), -1), (start(0), -1), (mark(0, 0), -1), (UNDO, -3), (LEFT, -3),
            (LIST, -3), (NEXT, -3), (split(0), -1), (REST, -3))
        self.assertEqual([call[0] for call, answer in firsts], list(range(11)))
        for call, answer in firsts:
            self.assertEqual(answers(call), [1, answer])
            self.assertEqual(answers(call + [1]), [1, answer, 1, 1 if call == add() else 0])

    def test_all_calls_mixed(self):
        self.assertTrue(is_lawful(CALLS))
        self.assertEqual({call[0] for call in CALLS}, set(range(11)))
        self.assertEqual(rows(answers(MIXED)), MIXED_ANSWERS)

    def test_a_row_that_looks_like_calls(self):
        self.assertEqual(answers([0, 5, 1, 1, 5, 5, 3, 1]), [1, -1, 1, 0])
        self.assertEqual(answers([0, 0, 0, 4, 0, 0, 0, 0, 1]), [1, 0, 1, 1, 1, 2])
        self.assertEqual(answers([0, 6, 7, 8, 9, 10, 6, 7, 10]), [1, -1, 1, -3])
        self.assertEqual(answers([9, 7, 9, 10, 9, 9, 1]), [1, -1, 1, -1, 1, -1, 1, 0])

    def test_whole_numbers_and_lists_alone(self):
        given = answers(MIXED)
        self.assertIs(type(given), list)
        self.assertEqual({type(number) for number in given}, {int})

    def test_the_list_is_as_it_was(self):
        handed = list(MIXED)
        answers(handed)
        self.assertEqual(handed, MIXED)

    def test_the_list_is_not_changed_for_a_while_either(self):
        self.assertEqual(answers(Untouchable(MIXED)), answers(MIXED))

    def test_a_second_time_gives_the_same(self):
        first = answers(MIXED)
        answers(joined(line(20) + [start(19), mark(3, GOOD)]))
        self.assertEqual(answers(MIXED), first)

    def test_nothing_is_kept(self):
        answers(joined(line(3) + [start(2), mark(0, SKIPPED), NEXT, REST]))
        self.assertEqual(answers([1, 5, 6, 7, 8, 10]), [1, 0] + [1, -3] * 5)
        self.assertEqual(answers(joined(line(3) + [start(2), NEXT]))[-2:], [1, 0])

    def test_the_answer_is_a_new_list_each_time(self):
        first = answers(MIXED)
        kept = list(first)
        first.clear()
        self.assertEqual(answers(MIXED), kept)

    def test_nothing_is_printed(self):
        out, err = io.StringIO(), io.StringIO()
        with contextlib.redirect_stdout(out), contextlib.redirect_stderr(err):
            answers(MIXED)
        self.assertEqual(out.getvalue() + err.getvalue(), "")

    def test_the_longest_lists(self):
        self.assertEqual(answers([1] * 60), [1, 0] * 60)
        self.assertEqual(answers([0, 599] + [GREATEST] * 599), [1, -1])
        marks = [mark(0, SKIPPED)] * 29
        self.assertEqual(answers(joined(line(30) + [start(29)] + marks))[1::2], list(range(30)) + [30] * 30)

    def rows_with_little_nesting(self, calls):
        self.assertTrue(is_lawful(calls))
        usual = sys.getrecursionlimit()
        sys.setrecursionlimit(len(inspect.stack()) + 25)
        try:
            return rows(answers(joined(calls)))
        finally:
            sys.setrecursionlimit(usual)

    def test_a_long_history_needs_no_deep_nesting(self):
        calls = line(40) + [before(0, 39), start(39)] + [mark(0, SKIPPED)] * 14 + [LEFT, LIST, NEXT, REST]
        self.assertEqual(
            self.rows_with_little_nesting(calls),
            [[number] for number in range(40)] + [[1]] + [[40]] * 16 + [list(range(40)), [19], [6]])

    def test_many_tries_need_no_deep_nesting(self):
        # 34 changes apart, each of which takes a try of its own; what joins them is skipped.
        calls, last = [add() for change in range(34)], 33
        for first in range(1, 34, 3):
            calls.append(add(last if first > 1 else 0, first, first + 1, first + 2))
            last += 1
        calls += [start(last), *skipped(*range(34, last + 1)), REST]
        self.assertEqual(self.rows_with_little_nesting(calls)[-1], [34])


if __name__ == "__main__":
    unittest.main()
