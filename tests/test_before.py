import unittest

from tests.helper import COUNT, FORK, GREATEST, add, before, line, told, told_after


class BeforeTest(unittest.TestCase):
    def test_itself(self):
        self.assertEqual(told(add(), add(), before(0, 0), before(1, 1)), [0, 1, 1, 1])

    def test_a_parent_and_the_wrong_way_round(self):
        self.assertEqual(told(add(), add(0), before(0, 1), before(1, 0)), [0, 1, 1, 0])

    def test_a_far_one_over_a_branch_and_a_join(self):
        self.assertEqual(told_after(FORK, before(0, 6), before(2, 6), before(3, 6), before(4, 6)), [1, 1, 1, 1])
        self.assertEqual(told_after(FORK, before(6, 0), before(6, 3), before(5, 1)), [0, 0, 0])

    def test_two_on_different_branches(self):
        self.assertEqual(told_after(FORK, before(2, 3), before(3, 2), before(2, 4), before(4, 2)), [0, 0, 0, 0])

    def test_a_lower_number_is_not_enough(self):
        self.assertEqual(told(add(), add(), before(0, 1), before(1, 0)), [0, 1, 0, 0])

    def test_along_the_longest_line(self):
        self.assertEqual(told_after(line(58), before(0, 57), before(57, 0)), [1, 0])

    def test_one_that_there_is_not(self):
        self.assertEqual(told(before(0, 0)), [-1])
        self.assertEqual(told(add(), before(0, 1), before(1, 0), before(1, 1)), [0, -1, -1, -1])

    def test_very_great_numbers(self):
        self.assertEqual(
            told(add(), before(GREATEST, 0), before(0, GREATEST), before(GREATEST, GREATEST), COUNT),
            [0, -1, -1, -1, 1])

    def test_later_changes_do_not_alter_it(self):
        self.assertEqual(
            told(add(), add(), before(0, 1), add(0, 1), before(0, 1), before(0, 2), before(1, 2)),
            [0, 1, 0, 2, 0, 1, 1])


if __name__ == "__main__":
    unittest.main()
