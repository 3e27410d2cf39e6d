import unittest

from tests.helper import BAD, COUNT, FORK, GOOD, GREATEST, SKIPPED, UNDO, add, line, mark, start, told, told_after


class StartTest(unittest.TestCase):
    def test_in_a_line_all_up_to_the_bad_one_are_left(self):
        for bad in range(6):
            self.assertEqual(told_after(line(6), start(bad)), [bad + 1])

    def test_in_a_branch_and_a_join(self):
        self.assertEqual(
            told_after(FORK, *[start(bad) for bad in range(7)]), [1, 2, 3, 3, 4, 6, 7])

    def test_changes_apart_are_not_left(self):
        self.assertEqual(told(add(), add(), add(1), start(2), start(0)), [0, 1, 2, 2, 1])

    def test_a_second_start_forgets_the_marks(self):
        self.assertEqual(
            told_after(line(5), start(4), mark(1, GOOD), mark(3, BAD), start(4), mark(0, SKIPPED)), [5, 3, 2, 5, 5])

    def test_a_second_start_forgets_the_bad_change(self):
        self.assertEqual(told_after(FORK, start(2), start(4), mark(2, GOOD)), [3, 4, 2])

    def test_no_such_change(self):
        self.assertEqual(told(start(0)), [-1])
        self.assertEqual(told(add(), start(1), start(GREATEST), start(0)), [0, -1, -1, 1])

    def test_a_refused_start_begins_no_search(self):
        self.assertEqual(told(add(), start(1), UNDO, mark(0, BAD)), [0, -1, -3, -3])

    def test_a_refused_start_keeps_the_search_and_its_marks(self):
        self.assertEqual(
            told_after(line(4), start(3), mark(0, GOOD), start(4), mark(2, SKIPPED), UNDO, UNDO, UNDO),
            [4, 3, -1, 3, 1, 1, 0])

    def test_adds_no_change(self):
        self.assertEqual(told_after(line(3), start(2), COUNT), [3, 3])


class AddedInTheMidstTest(unittest.TestCase):
    def test_how_many_are_left_stays(self):
        self.assertEqual(
            told_after(line(4), start(3), add(3), add(), add(0, 3), mark(0, SKIPPED), mark(5, SKIPPED)),
            [4, 4, 5, 6, 4, 4])

    def test_a_later_change_may_be_marked(self):
        self.assertEqual(told_after(line(4), start(3), add(1), mark(4, GOOD)), [4, 4, 2])
        self.assertEqual(told_after(line(4), start(3), add(1), mark(4, BAD)), [4, 4, 2])
        self.assertEqual(told_after(line(4), start(3), add(3), mark(4, BAD)), [4, 4, 4])
        self.assertEqual(told_after(line(4), start(3), add(3), mark(4, GOOD)), [4, 4, -4])
        self.assertEqual(told_after(line(4), start(3), add(), mark(4, GOOD)), [4, 4, 4])
        self.assertEqual(told_after(line(4), start(3), add(), mark(4, BAD)), [4, 4, -4])

    def test_they_are_left_in_a_search_begun_later(self):
        self.assertEqual(told_after(line(4), start(3), add(3), start(4)), [4, 4, 5])


if __name__ == "__main__":
    unittest.main()
