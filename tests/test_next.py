import unittest

from firstbad.search import answers
from tests.helper import (
    COUNT, FORK, LEFT, NEXT, STAR, UNDO, add, bad, good, line, mark, skipped, split, start, told, told_after)


class NextTest(unittest.TestCase):
    def check(self, setup, following):
        self.assertEqual(told_after(setup, NEXT, NEXT), [following, following])

    def test_the_middle_of_a_line(self):
        for changes, following in ((2, 0), (3, 0), (4, 1), (5, 1), (6, 2), (7, 2), (8, 3), (9, 3), (50, 24), (57, 27)):
            self.check(line(changes) + [start(changes - 1)], following)

    def test_the_middle_of_those_left(self):
        setup = line(12) + [start(9)]
        self.check(setup, 4)
        self.check(setup + good(4), 6)
        self.check(setup + bad(4), 1)
        self.check(setup + good(1) + bad(5), 3)
        self.check(setup + good(1) + bad(3), 2)

    def test_the_greatest_share_not_the_first_that_parts(self):
        # 0 to 3 part off one each, 4 all five of eight.
        self.check(STAR + [add(4), add(5), add(6), start(7)], 4)

    def test_a_share_is_the_smaller_number_not_those_before(self):
        # Before 3 are four of five, so it parts off but one; before 1 are two.
        self.check(line(5) + [start(4)] + skipped(2), 1)
        # Before 0 is one, before 4 are five of six: the one share is as great as the other.
        self.check(line(6) + [start(5)] + skipped(1, 2, 3), 0)

    def test_of_several_the_lowest_number(self):
        self.check(STAR + [start(4)], 0)
        self.check(STAR + [start(4)] + good(0), 1)
        self.check(FORK + [start(6)], 2)
        self.check(FORK + [start(6)] + bad(2), 0)

    def test_with_branches_and_joins(self):
        setup = FORK + [start(6)]
        self.check(setup + good(2), 4)
        self.check(setup + good(0, 1), 4)
        self.check(setup + good(4), 2)
        self.check(setup + bad(4), 1)

    def test_one_that_is_not_before_the_bad_one(self):
        # Before 5 are 0 and 1, two of the five left; every other parts off one at most.
        self.check(STAR + [add(0, 1), start(4)], 5)
        self.check(STAR + [add(0, 1), add(2, 3), start(4)], 5)
        self.check(STAR + [add(0, 1), add(2, 3), start(4)] + skipped(5), 6)

    def test_one_that_was_added_in_the_midst(self):
        self.assertEqual(
            told_after(STAR, start(4), NEXT, add(0, 1), NEXT, add(2, 3), NEXT, add(), NEXT), [5, 0, 5, 5, 6, 5, 7, 5])

    def test_one_added_in_the_midst_that_parts_no_better(self):
        self.assertEqual(told_after(line(4), start(3), NEXT, add(1), NEXT, add(0), NEXT), [4, 1, 4, 1, 5, 1])

    def test_one_that_is_before_the_bad_one_but_not_left(self):
        setup = [add(), add(), add(), add(0, 1, 2), add(0, 1), add(3, 4), start(5)] + bad(3)
        self.check(setup, 4)
        self.assertEqual(told_after(setup, LEFT, split(4)), [4, 2])

    def test_a_change_apart_is_no_try(self):
        self.check([add(), add(), add(0), add(), start(2)], 0)
        self.check([add(), add(), add(0), add(), start(2)] + skipped(0), -7)


class SkippedTest(unittest.TestCase):
    def test_skipped_changes_are_passed_over(self):
        # Of seven left the shares of 0 to 6 are 1, 2, 3, 3, 3, 1, 0.
        calls = [NEXT]
        for call in skipped(2, 3, 4, 1, 0, 5):
            calls += [call, NEXT]
        self.assertEqual(told_after(FORK, start(6), *calls)[1::2], [2, 3, 4, 1, 0, 5, -7])

    def test_they_count_again_once_the_skip_is_taken_back(self):
        setup = FORK + [start(6)] + skipped(2, 3, 4, 1, 0, 5)
        self.assertEqual(told_after(setup, *[NEXT, UNDO] * 6, NEXT)[0::2], [-7, 5, 0, 1, 4, 3, 2])

    def test_they_count_again_after_a_second_start(self):
        self.assertEqual(told_after(line(4), start(3), *skipped(1), NEXT, start(3), NEXT), [4, 4, 0, 4, 1])

    def test_skipped_twice_is_skipped_until_both_are_taken_back(self):
        self.assertEqual(
            told_after(line(4), start(3), *skipped(1, 1), NEXT, UNDO, NEXT, UNDO, NEXT), [4, 4, 4, 0, 1, 0, 1, 1])

    def test_skipped_then_marked_otherwise(self):
        for call in good(1) + bad(1):
            self.assertEqual(
                told_after(line(4), start(3), *skipped(1), call, UNDO, NEXT, UNDO, NEXT), [4, 4, 2, 1, 0, 1, 1])

    def test_one_that_is_not_left_may_be_skipped(self):
        setup = STAR + [add(0, 1), start(4)]
        self.assertEqual(told_after(setup, NEXT, *skipped(5), NEXT, UNDO, NEXT), [5, 5, 0, 1, 5])

    def test_a_refused_skip_passes_nothing_over(self):
        self.assertEqual(told_after(line(4), mark(1, 2), start(3), mark(4, 2), NEXT), [-3, 4, -1, 1])

    def test_kind_3_is_no_skip(self):
        self.assertEqual(told_after(line(4), start(3), mark(1, 3), NEXT), [4, -1, 1])


class MarkedTest(unittest.TestCase):
    def test_good_or_bad_is_no_skip(self):
        # What is marked good or bad parts nobody any more, but it does once the mark is taken back.
        for call, parted, following in (good(1) + [0, 2], bad(1) + [2, 0]):
            self.assertEqual(
                told_after(line(4), start(3), NEXT, call, LEFT, split(1), NEXT, UNDO, NEXT),
                [4, 1, 2, 2, parted, following, 1, 1])

    def test_nor_in_a_search_begun_later(self):
        for call in good(1) + bad(1):
            self.assertEqual(told_after(line(4), start(3), call, start(3), NEXT), [4, 2, 4, 1])


class NoneTest(unittest.TestCase):
    def test_one_is_left(self):
        self.assertEqual(told(add(), start(0), NEXT), [0, 1, -6])
        self.assertEqual(told_after(line(3), start(0), NEXT), [1, -6])
        self.assertEqual(told_after(line(3), start(2), *good(1), NEXT), [3, 1, -6])
        self.assertEqual(told_after(line(3), start(2), *bad(0), NEXT), [3, 1, -6])
        self.assertEqual(told_after(FORK, start(6), *good(2, 3), *bad(4), NEXT), [7, 4, 3, 1, -6])

    def test_one_is_left_and_skipped(self):
        self.assertEqual(told(add(), start(0), *skipped(0), NEXT), [0, 1, 1, -6])
        self.assertEqual(told_after(line(3), start(2), *skipped(0, 1, 2), *good(1), NEXT), [3, 3, 3, 3, 1, -6])

    def test_more_than_one_are_left(self):
        self.assertEqual(told_after(line(2), start(1), *skipped(0), NEXT), [2, 2, -7])
        self.assertEqual(told_after(line(3), start(2), *skipped(0, 1), NEXT), [3, 3, 3, -7])
        self.assertEqual(told_after(line(3), start(2), *skipped(0, 1, 2), NEXT), [3, 3, 3, 3, -7])
        self.assertEqual(told_after(line(4), start(3), *good(1), *skipped(2), NEXT), [4, 2, 2, -7])

    def test_one_that_parts_them_is_enough(self):
        self.assertEqual(told_after(line(3), start(2), *skipped(0), NEXT), [3, 3, 1])
        self.assertEqual(told_after(line(3), start(2), *skipped(1), NEXT), [3, 3, 0])
        self.assertEqual(told_after(line(3), start(2), *skipped(0, 1), NEXT, add(0), NEXT), [3, 3, 3, -7, 3, 3])
        self.assertEqual(told_after(line(3), start(2), *skipped(0, 1), NEXT, UNDO, NEXT), [3, 3, 3, -7, 1, 1])

    def test_all_or_none_of_those_left_before_it_is_no_try(self):
        self.assertEqual(told_after(line(3), start(1), *skipped(0), NEXT), [2, 2, -7])
        self.assertEqual(told_after(line(3) + [add()], start(1), *skipped(0), NEXT), [2, 2, -7])


class RefusedTest(unittest.TestCase):
    def test_as_the_first_call(self):
        self.assertEqual(answers([8]), [1, -3])

    def test_no_search_is_on(self):
        self.assertEqual(told(add(), NEXT, add(0), NEXT, start(2), NEXT, COUNT), [0, -3, 1, -3, -1, -3, 2])


if __name__ == "__main__":
    unittest.main()
