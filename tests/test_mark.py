import unittest

from firstbad.session import Session
from tests.helper import BAD, COUNT, FORK, GOOD, GREATEST, SKIPPED, UNDO, add, line, mark, start, told, told_after


class MarkTest(unittest.TestCase):
    def test_good_in_a_line(self):
        for good in range(5):
            self.assertEqual(told_after(line(6), start(5), mark(good, GOOD)), [6, 5 - good])

    def test_bad_in_a_line(self):
        for bad in range(6):
            self.assertEqual(told_after(line(6), start(5), mark(bad, BAD)), [6, bad + 1])

    def test_skipped_leaves_all_the_skipped_one_too(self):
        for skipped in range(6):
            self.assertEqual(told_after(line(6), start(5), mark(skipped, SKIPPED)), [6, 6])

    def test_in_a_branch_and_a_join(self):
        self.assertEqual(told_after(FORK, start(6), mark(2, GOOD)), [7, 4])
        self.assertEqual(told_after(FORK, start(6), mark(4, GOOD)), [7, 3])
        self.assertEqual(told_after(FORK, start(6), mark(2, BAD)), [7, 3])
        self.assertEqual(told_after(FORK, start(6), mark(4, BAD)), [7, 4])

    def test_marks_work_together(self):
        self.assertEqual(told_after(FORK, start(6), mark(2, GOOD), mark(4, GOOD), mark(5, BAD)), [7, 4, 2, 1])
        self.assertEqual(told_after(FORK, start(6), mark(2, BAD), mark(4, BAD), mark(0, GOOD)), [7, 3, 2, 1])

    def test_down_to_the_culprit(self):
        self.assertEqual(
            told_after(line(8), start(7), mark(3, BAD), mark(1, GOOD), mark(2, BAD), mark(2, BAD)), [8, 4, 2, 1, 1])

    def test_the_same_change_with_the_same_kind(self):
        for kind, left in ((GOOD, 3), (BAD, 3), (SKIPPED, 6)):
            self.assertEqual(
                told_after(line(6), start(5), mark(2, kind), mark(2, kind), UNDO, UNDO, UNDO),
                [6, left, left, 1, 1, 0])

    def test_the_same_change_with_another_kind(self):
        self.assertEqual(told_after(line(6), start(5), mark(2, GOOD), mark(2, BAD)), [6, 3, -4])
        self.assertEqual(told_after(line(6), start(5), mark(2, BAD), mark(2, GOOD)), [6, 3, -4])
        self.assertEqual(told_after(line(6), start(5), mark(2, GOOD), mark(2, SKIPPED)), [6, 3, 3])
        self.assertEqual(told_after(line(6), start(5), mark(2, SKIPPED), mark(2, GOOD)), [6, 6, 3])
        self.assertEqual(told_after(line(6), start(5), mark(2, BAD), mark(2, SKIPPED)), [6, 3, 3])
        self.assertEqual(told_after(line(6), start(5), mark(2, SKIPPED), mark(2, BAD)), [6, 6, 3])

    def test_a_change_outside_of_those_left(self):
        setup = line(5) + [add()]
        self.assertEqual(told_after(setup, start(3), mark(4, BAD)), [4, 4])
        self.assertEqual(told_after(setup, start(3), mark(5, GOOD)), [4, 4])
        self.assertEqual(told_after(setup, start(3), mark(4, SKIPPED), mark(5, SKIPPED)), [4, 4, 4])
        self.assertEqual(told_after(setup, start(3), mark(1, GOOD), mark(0, GOOD)), [4, 2, 2])
        self.assertEqual(told_after(FORK, start(4), mark(2, GOOD)), [4, 2])
        self.assertEqual(told_after(FORK, start(4), mark(2, BAD)), [4, 2])

    def test_adds_no_change(self):
        self.assertEqual(told_after(line(3), start(2), mark(1, BAD), COUNT), [3, 2, 3])


class RefusedMarkTest(unittest.TestCase):
    def test_no_such_change(self):
        self.assertEqual(
            told_after(line(2), start(1), mark(2, GOOD), mark(2, BAD), mark(2, SKIPPED), mark(GREATEST, BAD)),
            [2, -1, -1, -1, -1])

    def test_kind_above_2(self):
        self.assertEqual(told_after(line(2), start(1), mark(0, 3), mark(0, GREATEST)), [2, -1, -1])

    def test_no_search_is_on(self):
        self.assertEqual(told(add(), mark(0, GOOD), mark(0, BAD), mark(0, SKIPPED)), [0, -3, -3, -3])

    def test_no_such_change_comes_before_no_search(self):
        self.assertEqual(told(mark(0, BAD)), [-1])
        self.assertEqual(told(add(), mark(1, BAD), mark(0, 3), mark(1, 3)), [0, -1, -1, -1])

    def test_kind_above_2_comes_before_nobody_left(self):
        self.assertEqual(told_after(line(2), start(1), mark(1, 3), mark(1, GOOD)), [2, -1, -4])

    def test_nobody_would_be_left(self):
        self.assertEqual(told_after(line(3), start(2), mark(2, GOOD)), [3, -4])
        self.assertEqual(told_after(line(3) + [add(2)], start(2), mark(3, GOOD)), [3, -4])
        self.assertEqual(told(add(), add(), start(0), mark(1, BAD)), [0, 1, 1, -4])
        self.assertEqual(told_after(line(3), start(2), mark(1, GOOD), mark(0, BAD)), [3, 1, -4])
        self.assertEqual(told_after(line(3), start(2), mark(1, BAD), mark(1, GOOD)), [3, 2, -4])

    def test_a_refused_mark_changes_nothing(self):
        refused = (mark(9, GOOD), mark(0, 3), mark(3, GOOD), mark(0, BAD))
        self.assertEqual(
            told_after(line(4), start(3), mark(0, GOOD), *refused, mark(1, SKIPPED), UNDO),
            [4, 3, -1, -1, -4, -4, 3, 1])

    def test_undo_after_a_refused_mark_takes_back_the_one_before_it(self):
        for refused, answer in ((mark(9, GOOD), -1), (mark(0, 3), -1), (mark(3, GOOD), -4)):
            self.assertEqual(
                told_after(line(4), start(3), mark(0, GOOD), mark(1, GOOD), refused, UNDO, mark(0, SKIPPED)),
                [4, 3, 2, answer, 1, 3])

    def test_a_refused_mark_begins_no_search(self):
        self.assertEqual(told(add(), mark(0, BAD), UNDO, start(0), UNDO), [0, -3, -3, 1, 0])


class FullTest(unittest.TestCase):
    """No list of calls gets this far, but the words tell these bounds."""

    def test_512_changes(self):
        session = Session()
        for number in range(512):
            self.assertEqual(session.add([number - 1] if number else []), number)
        self.assertEqual(session.add([0]), -2)
        self.assertEqual(session.add([]), -2)
        self.assertEqual(session.add([512]), -1)
        self.assertEqual(session.add([0, 0, 0, 0, 0]), -1)
        self.assertEqual(session.count(), 512)
        self.assertEqual(session.start(511), 512)

    def test_1024_marks(self):
        session = Session()
        session.add([])
        session.start(0)
        for kind in [BAD, SKIPPED] * 512:
            self.assertEqual(session.mark(0, kind), 1)
        self.assertEqual(session.mark(0, BAD), -2)
        self.assertEqual(session.mark(0, GOOD), -2)
        self.assertEqual(session.mark(1, BAD), -1)
        self.assertEqual(session.mark(0, 3), -1)
        self.assertEqual(session.undo(), 1)
        self.assertEqual(session.mark(0, BAD), 1)
        self.assertEqual(session.start(0), 1)
        self.assertEqual(session.mark(0, BAD), 1)


if __name__ == "__main__":
    unittest.main()
