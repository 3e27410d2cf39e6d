import unittest

from firstbad.search import answers
from tests.helper import (
    BAD, COUNT, FORK, GOOD, LEFT, LIST, SKIPPED, UNDO, add, bad, good, line, mark, skipped, start, told, told_after)


class LeftAndListTest(unittest.TestCase):
    def check(self, setup, row):
        self.assertEqual(told_after(setup, LEFT, LIST, LEFT, LIST), [len(row), row, len(row), row])

    def test_after_start_in_a_line(self):
        for last in range(6):
            self.check(line(6) + [start(last)], list(range(last + 1)))

    def test_after_start_with_branches_and_joins(self):
        self.check(FORK + [start(0)], [0])
        self.check(FORK + [start(2)], [0, 1, 2])
        self.check(FORK + [start(4)], [0, 1, 3, 4])
        self.check(FORK + [start(5)], [0, 1, 2, 3, 4, 5])
        self.check(FORK + [start(6)], [0, 1, 2, 3, 4, 5, 6])

    def test_changes_apart_are_not_left(self):
        self.check([add(), add(), add(1), add(0), start(2)], [1, 2])

    def test_after_good(self):
        self.check(FORK + [start(6)] + good(2), [3, 4, 5, 6])
        self.check(FORK + [start(6)] + good(4), [2, 5, 6])
        self.check(FORK + [start(6)] + good(2, 4), [5, 6])

    def test_after_bad(self):
        self.check(FORK + [start(6)] + bad(2), [0, 1, 2])
        self.check(FORK + [start(6)] + bad(4), [0, 1, 3, 4])
        self.check(FORK + [start(6)] + bad(2, 4), [0, 1])

    def test_after_good_and_bad(self):
        self.check(FORK + [start(6)] + good(2) + bad(4), [3, 4])
        self.check(FORK + [start(6)] + bad(5) + good(2, 3), [4, 5])

    def test_skipped_changes_may_be_left(self):
        self.check(FORK + [start(6)] + skipped(0, 3, 6), [0, 1, 2, 3, 4, 5, 6])
        self.check(FORK + [start(6)] + skipped(3, 4) + good(2) + bad(4), [3, 4])
        self.check([add(), start(0)] + skipped(0), [0])

    def test_skipped_and_good_or_bad_at_once(self):
        self.check(line(4) + [start(3)] + skipped(1) + good(1), [2, 3])
        self.check(line(4) + [start(3)] + bad(1) + skipped(1), [0, 1])

    def test_after_undo(self):
        self.check(FORK + [start(6)] + good(2) + bad(4) + [UNDO], [3, 4, 5, 6])
        self.check(FORK + [start(6)] + good(2) + skipped(4) + [UNDO], [3, 4, 5, 6])
        self.check(FORK + [start(6)] + good(2) + bad(4) + [UNDO, UNDO], [0, 1, 2, 3, 4, 5, 6])
        self.check(FORK + [start(6)] + good(2) + [UNDO, UNDO, UNDO], [0, 1, 2, 3, 4, 5, 6])

    def test_after_a_refused_mark(self):
        for refused in (mark(7, GOOD), mark(3, 3), mark(6, GOOD), mark(2, BAD)):
            self.check(FORK + [start(6)] + good(2) + [refused], [3, 4, 5, 6])

    def test_after_a_refused_start(self):
        self.check(FORK + [start(6)] + good(2) + [start(7)], [3, 4, 5, 6])

    def test_after_a_second_start(self):
        self.check(FORK + [start(6)] + good(2) + [start(2)], [0, 1, 2])

    def test_after_changes_added_in_the_midst(self):
        setup = FORK + [start(4)] + good(0)
        self.check(setup + [add(4), add(), add(0, 3), add(4, 7, 8)], [1, 3, 4])
        self.check(setup + [add(1)] + bad(7), [1])
        self.check(setup + [add(1)] + good(7), [3, 4])

    def test_rises_whatever_the_order_of_parents(self):
        self.check([add(), add(), add(), add(2, 0, 1), add(3, 1), start(4)], [0, 1, 2, 3, 4])
        self.check([add(), add(), add(), add(), add(3, 1), start(4)], [1, 3, 4])

    def test_the_longest_row(self):
        self.assertEqual(told_after(line(57), start(56), LEFT, LIST), [57, 57, list(range(57))])


class CodedTest(unittest.TestCase):
    def test_a_list_has_no_count_of_its_own(self):
        self.assertEqual(answers([0, 0, 3, 0, 7]), [1, 0, 1, 1, 1, 0])
        self.assertEqual(
            answers([0, 0, 0, 1, 0, 0, 1, 1, 3, 2, 7, 6, 7]),
            [1, 0, 1, 1, 1, 2, 1, 3, 3, 0, 1, 2, 1, 3, 3, 0, 1, 2])


class RefusedTest(unittest.TestCase):
    def test_as_the_first_call(self):
        self.assertEqual(answers([6]), [1, -3])
        self.assertEqual(answers([7]), [1, -3])

    def test_no_search_is_on(self):
        self.assertEqual(
            told(add(), LEFT, LIST, start(1), LEFT, LIST, mark(0, BAD), LEFT, LIST, UNDO, LEFT, LIST, COUNT),
            [0, -3, [-3], -1, -3, [-3], -3, -3, [-3], -3, -3, [-3], 1])


class MarkAnswersTheSameTest(unittest.TestCase):
    def test_left_is_what_start_and_mark_told(self):
        marks = [mark(0, GOOD), mark(4, SKIPPED), mark(5, BAD), mark(2, GOOD), mark(3, GOOD)]
        calls = [start(6), LEFT]
        for call in marks:
            calls += [call, LEFT]
        given = told_after(FORK, *calls)
        self.assertEqual(given[0::2], [7, 6, 6, 5, 3, 2])
        self.assertEqual(given[1::2], [7, 6, 6, 5, 3, 2])


if __name__ == "__main__":
    unittest.main()
