import contextlib
import inspect
import io
import sys
import unittest

from firstbad.search import answers
from tests.helper import BAD, COUNT, FORK, GOOD, GREATEST, SKIPPED, UNDO, add, before, joined, line, mark, start


class Untouchable(list):
    """A list that tells of any try to change it, even of one that would be made good again."""

    def refuse(self, *given, **named):
        raise AssertionError("what is handed in was changed")

    append = extend = insert = pop = remove = clear = sort = reverse = refuse
    __setitem__ = __delitem__ = __iadd__ = __imul__ = refuse


MIXED = joined(FORK + [
    COUNT, add(9), add(0, 0, 0, 0, 0), before(0, 6), before(2, 3), before(0, GREATEST), UNDO, mark(0, BAD), start(6),
    mark(2, GOOD), add(6), mark(4, BAD), mark(6, GOOD), mark(3, SKIPPED), UNDO, UNDO, start(7), UNDO, start(8)])

MIXED_ANSWERS = [
    0, 1, 2, 3, 4, 5, 6,
    7, -1, -1, 1, 0, -1, -3, -3, 7,
    4, 7, 2, -4, 2, 1, 1, 8, 0, -1]


class InterfaceTest(unittest.TestCase):
    def test_each_answer_has_its_count_before_it(self):
        self.assertEqual(answers([1]), [1, 0])
        self.assertEqual(answers([0, 0, 0, 1, 0, 3, 1, 4, 0, 0, 4, 1, 0, 5, 2, 1, 0]),
                         [1, 0, 1, 1, 1, 2, 1, 1, 1, -4, 1, 1, 1, 0])

    def test_any_call_may_come_first(self):
        for call, answer in ((add(), 0), (COUNT, 0), (before(0, 0), -1), (start(0), -1), (mark(0, 0), -1), (UNDO, -3)):
            self.assertEqual(answers(call), [1, answer])

    def test_all_calls_mixed(self):
        given = answers(MIXED)
        self.assertEqual(given[1::2], MIXED_ANSWERS)
        self.assertEqual(given[0::2], [1] * len(MIXED_ANSWERS))

    def test_a_row_that_looks_like_calls(self):
        self.assertEqual(answers([0, 5, 1, 1, 5, 5, 3, 1]), [1, -1, 1, 0])
        self.assertEqual(answers([0, 0, 0, 4, 0, 0, 0, 0, 1]), [1, 0, 1, 1, 1, 2])

    def test_whole_numbers_and_lists_alone(self):
        given = answers(MIXED)
        self.assertIs(type(given), list)
        self.assertEqual({type(number) for number in given}, {int})

    def test_the_list_is_as_it_was(self):
        handed = list(MIXED)
        answers(handed)
        self.assertEqual(handed, MIXED)

    def test_the_list_is_not_changed_for_a_while_either(self):
        self.assertEqual(answers(Untouchable(MIXED)), answers(MIXED))

    def test_a_second_time_gives_the_same(self):
        first = answers(MIXED)
        answers(joined(line(20) + [start(19), mark(3, GOOD)]))
        self.assertEqual(answers(MIXED), first)

    def test_nothing_is_kept(self):
        answers(joined([add(), start(0), mark(0, BAD)]))
        self.assertEqual(answers([1, 5]), [1, 0, 1, -3])

    def test_the_answer_is_a_new_list_each_time(self):
        first = answers(MIXED)
        kept = list(first)
        first.clear()
        self.assertEqual(answers(MIXED), kept)

    def test_nothing_is_printed(self):
        out, err = io.StringIO(), io.StringIO()
        with contextlib.redirect_stdout(out), contextlib.redirect_stderr(err):
            answers(MIXED)
        self.assertEqual(out.getvalue() + err.getvalue(), "")

    def test_the_longest_lists(self):
        self.assertEqual(answers([1] * 60), [1, 0] * 60)
        self.assertEqual(answers([0, 599] + [GREATEST] * 599), [1, -1])
        marks = [mark(0, SKIPPED)] * 29
        self.assertEqual(answers(joined(line(30) + [start(29)] + marks))[1::2], list(range(30)) + [30] * 30)

    def test_a_long_history_needs_no_deep_nesting(self):
        calls = joined(line(40) + [before(0, 39), start(39)] + [mark(0, SKIPPED)] * 18)
        usual = sys.getrecursionlimit()
        sys.setrecursionlimit(len(inspect.stack()) + 25)
        try:
            given = answers(calls)
        finally:
            sys.setrecursionlimit(usual)
        self.assertEqual(given[1::2], list(range(40)) + [1] + [40] * 19)


if __name__ == "__main__":
    unittest.main()
