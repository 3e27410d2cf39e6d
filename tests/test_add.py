import unittest

from tests.helper import COUNT, GREATEST, UNDO, add, before, line, mark, start, told, told_after, GOOD


class AddTest(unittest.TestCase):
    def test_numbers_rise_from_0(self):
        self.assertEqual(told(add(), add(), add()), [0, 1, 2])

    def test_one_to_four_parents(self):
        self.assertEqual(
            told_after(line(4), add(0), add(0, 1), add(0, 1, 2), add(3, 2, 1, 0)), [4, 5, 6, 7])

    def test_each_of_four_parents_counts(self):
        roots = [add(), add(), add(), add(), add()]
        asked = [before(number, 5) for number in range(5)]
        self.assertEqual(told_after(roots, add(3, 0, 4, 1), *asked), [5, 1, 1, 0, 1, 1])

    def test_the_same_parent_twice(self):
        self.assertEqual(told(add(), add(0, 0), before(0, 1), start(1)), [0, 1, 1, 2])

    def test_the_same_parent_four_times(self):
        self.assertEqual(told(add(), add(0, 0, 0, 0), start(1)), [0, 1, 2])

    def test_five_parents_are_refused(self):
        self.assertEqual(told_after(line(5), add(0, 1, 2, 3, 4)), [-1])

    def test_five_times_the_same_parent_is_refused(self):
        self.assertEqual(told(add(), add(0, 0, 0, 0, 0), COUNT), [0, -1, 1])

    def test_a_long_row_of_parents_is_refused_whole(self):
        self.assertEqual(told(add(), add(*[0] * 590), COUNT), [0, -1, 1])

    def test_a_parent_that_there_is_not(self):
        self.assertEqual(told(add(0)), [-1])
        self.assertEqual(told(add(), add(7)), [0, -1])

    def test_the_new_change_is_no_parent_of_its_own(self):
        self.assertEqual(told(add(), add(1), add(0, 1), COUNT), [0, -1, -1, 1])

    def test_one_wrong_parent_among_right_ones(self):
        for place in range(4):
            parents = [0, 1, 2, 0]
            parents[place] = 3
            self.assertEqual(told_after(line(3), add(*parents), COUNT), [-1, 3])

    def test_very_great_parents(self):
        for parent in (2 ** 31, 2 ** 32, 2 ** 63, GREATEST):
            self.assertEqual(told(add(), add(parent), add(0, parent), COUNT), [0, -1, -1, 1])

    def test_a_refused_add_changes_nothing(self):
        self.assertEqual(
            told(add(), add(5), COUNT, add(0), add(0, 0, 0, 0, 0), COUNT, add(1), before(0, 2)),
            [0, -1, 1, 1, -1, 2, 2, 1])

    def test_a_search_stays_on(self):
        self.assertEqual(
            told_after(line(3), start(2), mark(0, GOOD), add(2), add(9), UNDO, UNDO), [3, 2, 3, -1, 1, 0])


class CountTest(unittest.TestCase):
    def test_none_at_the_beginning(self):
        self.assertEqual(told(COUNT), [0])

    def test_counts_changes_alone(self):
        self.assertEqual(told(add(), COUNT, start(0), mark(0, 1), UNDO, COUNT, add(0), COUNT), [0, 1, 1, 1, 1, 1, 1, 2])

    def test_as_many_as_a_list_can_add(self):
        self.assertEqual(told_after(line(59), COUNT), [59])


if __name__ == "__main__":
    unittest.main()
