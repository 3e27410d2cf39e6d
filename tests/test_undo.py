import unittest

from tests.helper import BAD, COUNT, GOOD, SKIPPED, UNDO, add, line, mark, start, told, told_after


class UndoTest(unittest.TestCase):
    def test_no_search_is_on(self):
        self.assertEqual(told(UNDO), [-3])
        self.assertEqual(told(add(), UNDO, COUNT), [0, -3, 1])

    def test_no_mark(self):
        self.assertEqual(told_after(line(3), start(2), UNDO, UNDO, mark(0, SKIPPED)), [3, 0, 0, 3])

    def test_after_each_kind(self):
        for kind, left in ((GOOD, 3), (BAD, 3), (SKIPPED, 6)):
            self.assertEqual(
                told_after(line(6), start(5), mark(2, kind), UNDO, UNDO, mark(0, SKIPPED)), [6, left, 1, 0, 6])

    def test_the_last_mark_goes_first(self):
        marks = [mark(0, GOOD), mark(4, BAD), mark(3, SKIPPED), mark(1, GOOD)]
        for taken, left in enumerate([3, 4, 4, 5, 6]):
            self.assertEqual(
                told_after(line(6), start(5), *marks, *[UNDO] * taken, mark(5, SKIPPED)),
                [6, 5, 4, 4, 3] + [1] * taken + [left])

    def test_down_to_none_then_0(self):
        self.assertEqual(
            told_after(line(6), start(5), mark(0, GOOD), mark(4, BAD), mark(3, SKIPPED), UNDO, UNDO, UNDO, UNDO, UNDO),
            [6, 5, 4, 4, 1, 1, 1, 0, 0])

    def test_takes_back_one_of_two_same_marks(self):
        self.assertEqual(
            told_after(line(6), start(5), mark(2, GOOD), mark(2, GOOD), UNDO, mark(2, BAD), UNDO, mark(2, BAD)),
            [6, 3, 3, 1, -4, 1, 3])

    def test_after_a_second_start(self):
        self.assertEqual(
            told_after(line(6), start(5), mark(2, GOOD), start(4), UNDO, mark(0, SKIPPED), UNDO, UNDO),
            [6, 3, 5, 0, 5, 1, 0])

    def test_keeps_changes_that_were_added_after_the_mark(self):
        self.assertEqual(
            told_after(line(3), start(2), mark(0, GOOD), add(2), UNDO, COUNT, mark(3, BAD)), [3, 2, 3, 1, 4, 3])

    def test_a_mark_that_was_refused_is_taken_once_the_other_is_back(self):
        self.assertEqual(
            told_after(line(3), start(2), mark(1, GOOD), mark(1, BAD), UNDO, mark(1, BAD)), [3, 1, -4, 1, 2])


if __name__ == "__main__":
    unittest.main()
