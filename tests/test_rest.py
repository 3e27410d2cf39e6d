import unittest

from firstbad.search import answers
from firstbad.session import Session
from tests.helper import (
    COUNT, FORK, LEFT, LIST, NEXT, REST, STAR, UNDO, add, bad, good, line, skipped, start, told, told_after)


class RestTest(unittest.TestCase):
    def check(self, setup, rest):
        self.assertEqual(told_after(setup, REST, REST), [rest, rest])

    def test_lines(self):
        told_for = {1: 0, 2: 1, 3: 2, 4: 2, 5: 3, 6: 3, 7: 3, 8: 3, 9: 4, 15: 4, 16: 4, 17: 5, 31: 5, 32: 5, 33: 6,
                    50: 6, 57: 6, 58: 6}
        for changes, rest in told_for.items():
            self.assertEqual(told_after(line(changes), start(changes - 1), REST), [changes, rest])

    def test_in_the_midst_of_a_line(self):
        self.check(line(20) + [start(8)], 4)
        self.check(line(20) + [start(8)] + good(0), 3)
        self.check(line(20) + [start(8)] + good(0) + bad(4), 2)
        self.check(line(20) + [start(8)] + good(0) + bad(4) + [UNDO], 3)

    def test_changes_apart(self):
        # One after another is parted off: no try does better.
        self.check(STAR + [start(4)], 4)
        self.check([add(), add(), add(), add(0, 1, 2), start(3)], 3)
        self.check([add(), add(), add(0, 1), start(2)], 2)

    def test_a_try_that_is_not_left_may_help(self):
        # 5 parts 0 and 1 from 2, 3 and 4: then two more tries for these three.
        self.check(STAR + [add(0, 1), start(4)], 3)
        self.check(STAR + [start(4), add(0, 1)], 3)
        self.check(STAR + [add(0, 1), start(4)] + skipped(5), 4)

    def test_with_branches_and_joins(self):
        self.check(FORK + [start(6)], 3)
        self.check(FORK + [start(6)] + good(2), 2)
        self.check(FORK + [start(6)] + bad(2), 2)
        self.check(FORK + [start(4)], 2)
        self.check(FORK + [start(6)] + good(2) + bad(4), 1)

    def test_the_worse_answer_is_bad(self):
        # 3 parts eight: if it is bad, 0 to 3 need three tries; if good, the line of 4 to 7 needs two.
        self.check([add(), add(), add(), add(0, 1, 2), add(3), add(4), add(5), add(6), start(7)], 4)

    def test_the_worse_answer_is_good(self):
        # 3 parts eight: if it is bad, the line of 0 to 3 needs two tries; if good, 4 to 7 need three.
        self.check(line(4) + [add(), add(), add(), add(3, 4, 5, 6), start(7)], 4)

    def test_it_is_told_of_the_next_try_not_of_some_other(self):
        # 2 and 4 part eight into three and five alike. Behind 2, the lower one, three more tries are needed for
        # 3 to 7; behind 4 two would do.
        setup = line(8) + [start(7)] + skipped(3)
        self.check(setup, 4)
        self.check(setup + good(2), 3)
        self.check(setup + bad(2), 2)
        self.check(setup + good(4), 2)
        self.check(setup + bad(4), 2)

    def test_one_is_left(self):
        self.check([add(), start(0)], 0)
        self.check([add(), start(0)] + skipped(0), 0)
        self.check(line(5) + [start(0)], 0)
        self.check(line(5) + [start(4)] + good(3), 0)
        self.check(line(5) + [start(4)] + bad(0), 0)


class SkippedTest(unittest.TestCase):
    def check(self, skips, rest):
        self.assertEqual(told_after(line(4), start(3), *skipped(*skips), REST)[-1], rest)

    def test_a_line_of_four(self):
        self.check([], 2)
        self.check([0], 2)
        self.check([1], 2)
        self.check([2], 2)
        self.check([3], 2)
        self.check([0, 1], 1)
        self.check([0, 2], 1)
        self.check([1, 2], 1)

    def test_no_next_try_though_more_than_one_are_left(self):
        self.check([0, 1, 2], 0)
        self.check([2, 0, 1, 3], 0)
        self.assertEqual(told_after(FORK, start(6), *skipped(2, 3, 4, 1, 0, 5), NEXT, LEFT, REST)[-3:], [-7, 7, 0])

    def test_skips_can_make_it_greater(self):
        self.assertEqual(told_after(line(8), start(7), REST, *skipped(3), REST), [8, 3, 8, 4])
        self.assertEqual(told_after(STAR + [add(0, 1)], start(4), REST, *skipped(5), REST), [5, 3, 5, 4])

    def test_skips_can_make_it_smaller(self):
        # What stays together can't be parted any more, and so takes no try.
        self.assertEqual(told_after(line(8), start(7), *skipped(2, 3, 4), REST)[-1], 3)
        self.assertEqual(told_after(line(8), start(7), *skipped(2, 3, 4, 5), REST)[-1], 2)
        self.assertEqual(told_after(line(8), start(7), *skipped(0, 1, 2, 4, 5, 6), REST)[-1], 1)

    def test_they_count_again_once_taken_back(self):
        self.assertEqual(
            told_after(line(4), start(3), *skipped(0, 1, 2), REST, UNDO, REST, UNDO, REST)[4:], [0, 1, 1, 1, 2])

    def test_one_that_is_not_left(self):
        self.assertEqual(told_after(line(4), start(2), *skipped(3), REST), [3, 3, 2])


class DeepTest(unittest.TestCase):
    def test_one_try_for_each_change_apart(self):
        # Each join has three changes apart beside the join before it, and all joins are skipped.
        calls, joins = [add(), add(), add(), add(), add(0, 1, 2, 3)], [4]
        while len(joins) < 8:
            first = joins[-1] + 1
            calls += [add(), add(), add(), add(joins[-1], first, first + 1, first + 2)]
            joins.append(first + 3)
        setup = calls + [start(joins[-1])] + skipped(*joins)
        self.assertEqual(told_after(setup, LEFT, REST, NEXT), [33, 25, 0])

    def test_a_history_as_long_as_the_words_allow(self):
        # No list of calls gets this far, but the words tell this bound.
        session = Session()
        for number in range(512):
            session.add([number - 1] if number else [])
        session.start(511)
        self.assertEqual([session.left(), session.next_try(), session.split(300), session.rest()], [512, 255, 301, 9])
        for number in range(250, 261):
            session.mark(number, 2)
        self.assertEqual([session.left(), session.next_try(), session.listed()], [512, 249, list(range(512))])


class RefusedTest(unittest.TestCase):
    def test_as_the_first_call(self):
        self.assertEqual(answers([10]), [1, -3])

    def test_no_search_is_on(self):
        self.assertEqual(told(add(), REST, add(0), REST, start(2), REST, COUNT), [0, -3, 1, -3, -1, -3, 2])

    def test_it_changes_nothing(self):
        self.assertEqual(
            told_after(FORK, start(6), *good(2), REST, LIST, REST, UNDO, REST, LIST, UNDO),
            [7, 4, 2, [3, 4, 5, 6], 2, 1, 3, [0, 1, 2, 3, 4, 5, 6], 0])


if __name__ == "__main__":
    unittest.main()
