import unittest

from firstbad.search import answers
from tests.helper import (
    COUNT, FORK, GREATEST, STAR, UNDO, add, bad, good, line, skipped, split, start, told, told_after)


def splits(changes):
    return [split(c) for c in range(changes)]


class SplitTest(unittest.TestCase):
    def test_in_a_line(self):
        self.assertEqual(told_after(line(5), start(4), *splits(5)), [5, 1, 2, 3, 4, 5])

    def test_changes_behind_the_bad_one_have_all_before_them(self):
        self.assertEqual(told_after(line(5), start(2), *splits(5)), [3, 1, 2, 3, 3, 3])

    def test_with_branches_and_joins(self):
        self.assertEqual(told_after(FORK, start(6), *splits(7)), [7, 1, 2, 3, 3, 4, 6, 7])
        self.assertEqual(told_after(FORK, start(4), *splits(7)), [4, 1, 2, 2, 3, 4, 4, 4])

    def test_after_good_none_are_before_it(self):
        self.assertEqual(told_after(FORK, start(6), *good(2), *splits(7)), [7, 4, 0, 0, 0, 1, 2, 3, 4])

    def test_after_bad_all_are_before_it(self):
        self.assertEqual(told_after(FORK, start(6), *bad(4), *splits(7)), [7, 4, 1, 2, 2, 3, 4, 4, 4])

    def test_after_skips_as_before_them(self):
        self.assertEqual(told_after(FORK, start(6), *skipped(3, 5), *splits(7)), [7, 7, 7, 1, 2, 3, 3, 4, 6, 7])

    def test_after_undo(self):
        self.assertEqual(told_after(FORK, start(6), *good(2), UNDO, *splits(7)), [7, 4, 1, 1, 2, 3, 3, 4, 6, 7])

    def test_changes_not_left(self):
        setup = STAR + [add(0, 1), add(), add(5, 6), add(4)]
        self.assertEqual(told_after(setup, start(4), *splits(9)), [5, 1, 1, 1, 1, 5, 2, 0, 2, 5])

    def test_changes_added_in_the_midst(self):
        self.assertEqual(
            told_after(line(4), start(3), add(1), split(4), add(), split(5), add(4, 5), split(6), add(3), split(7)),
            [4, 4, 2, 5, 0, 6, 2, 7, 4])

    def test_one_is_left(self):
        self.assertEqual(told_after(line(4), start(3), *good(1), *bad(2), *splits(4)), [4, 2, 1, 0, 0, 1, 1])


class RefusedTest(unittest.TestCase):
    def test_as_the_first_call(self):
        self.assertEqual(answers([9, 0]), [1, -1])
        self.assertEqual(answers([9, GREATEST]), [1, -1])

    def test_no_such_change(self):
        self.assertEqual(
            told_after(line(3), start(2), split(3), split(2 ** 32), split(2 ** 63), split(GREATEST), split(2)),
            [3, -1, -1, -1, -1, 3])

    def test_no_search_is_on(self):
        self.assertEqual(told(add(), split(0), add(), split(0), split(1), COUNT), [0, -3, 1, -3, -3, 2])

    def test_no_such_change_comes_before_no_search(self):
        self.assertEqual(told(split(0), add(), split(1), split(0)), [-1, 0, -1, -3])


if __name__ == "__main__":
    unittest.main()
