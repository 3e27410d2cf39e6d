"""The promises, of many histories, against the words of the document taken one by one."""

import itertools
import random
import unittest

from tests.helper import BAD, COUNT, GOOD, SKIPPED, UNDO, add, before, mark, start, told


def is_before(parents, a, b):
    return a == b or any(is_before(parents, a, parent) for parent in parents[b])


def is_true(parents, culprit, marked, kind):
    return kind == SKIPPED or is_before(parents, culprit, marked) == (kind == BAD)


def left(parents, bad, marks):
    known = [(bad, BAD)] + marks
    return [x for x in range(len(parents)) if all(is_true(parents, x, *one) for one in known)]


def small_histories(changes):
    """Every history of so many changes, but for the order of parents and for one standing twice."""
    choices = []
    for number in range(changes):
        rows = [row for size in range(number + 1) for row in itertools.combinations(range(number), size)]
        choices.append(rows)
    return itertools.product(*choices)


def some_history(source, changes):
    parents = []
    for number in range(changes):
        size = source.randint(0, 4) if number else 0
        lowest = max(0, number - 6)
        parents.append([source.randint(lowest, number - 1) for parent in range(size)])
    return parents


class Words:
    """What each call answers by the words, all of it worked out anew each time."""

    def __init__(self):
        self.parents, self.bad, self.marks = [], None, []

    def answer(self, call):
        named = [self.add, self.count, self.before, self.start, self.mark, self.undo]
        given = [call[2:]] if call[0] == 0 else call[1:]
        return named[call[0]](*given)

    def lacks(self, *changes):
        return any(change >= len(self.parents) for change in changes)

    def add(self, parents):
        if len(parents) > 4 or self.lacks(*parents):
            return -1
        self.parents.append(parents)
        return len(self.parents) - 1

    def count(self):
        return len(self.parents)

    def before(self, a, b):
        return -1 if self.lacks(a, b) else int(is_before(self.parents, a, b))

    def start(self, bad):
        if self.lacks(bad):
            return -1
        self.bad, self.marks = bad, []
        return len(left(self.parents, bad, []))

    def mark(self, c, kind):
        if self.lacks(c) or kind > 2:
            return -1
        if self.bad is None:
            return -3
        remaining = left(self.parents, self.bad, self.marks + [(c, kind)])
        if not remaining:
            return -4
        self.marks.append((c, kind))
        return len(remaining)

    def undo(self):
        if self.bad is None:
            return -3
        return int(bool(self.marks) and bool(self.marks.pop()))


def some_call(source, changes):
    c, d = source.randint(0, changes), source.randint(0, changes)
    parents = [source.randint(0, changes) for parent in range(source.choice([0, 1, 1, 2, 2, 3, 4, 5]))]
    choices = [add(*parents), add(*[min(parent, 2) for parent in parents]), COUNT, before(c, d), start(c), UNDO]
    return source.choice(choices + [mark(c, source.choice([0, 0, 1, 1, 2, 2, 3])) for time in range(5)])


class PromisesTest(unittest.TestCase):
    def test_left_is_what_the_marks_do_not_rule_out(self):
        kinds = list(itertools.product(range(4), (GOOD, BAD, SKIPPED)))
        for parents in small_histories(4):
            adds = [add(*row) for row in parents]
            for bad, first in itertools.product(range(4), kinds):
                calls = adds + [start(bad)]
                for second in kinds:
                    calls += [start(bad), mark(*first), mark(*second), UNDO, UNDO]
                words = Words()
                self.assertEqual(told(*calls), [words.answer(call) for call in calls], calls)

    def test_the_culprit_is_always_left(self):
        source = random.Random(1)
        for time in range(150):
            parents = some_history(source, 14)
            bad = source.randrange(14)
            culprit = source.choice([x for x in range(14) if is_before(parents, x, bad)])
            tried = source.sample(range(14), 14)
            marks = [(c, BAD if is_before(parents, culprit, c) else GOOD) for c in tried]
            given = told(*[add(*row) for row in parents], start(bad), *[mark(*one) for one in marks])[14:]
            self.assertEqual(given, [len(left(parents, bad, marks[:n])) for n in range(15)])
            self.assertGreaterEqual(min(given), 1)
            self.assertEqual(given[-1], 1)

    def test_a_mark_taken_back_leaves_all_as_before_it(self):
        source = random.Random(2)
        for time in range(150):
            setup = [add(*row) for row in some_history(source, 10)] + [start(9)]
            setup += [mark(source.randrange(10), source.randrange(3)) for number in range(4)]
            asked = [mark(source.randrange(10), source.randrange(3)) for number in range(6)] + [UNDO] * 11
            taken = mark(source.randrange(10), source.randrange(3))
            back = [UNDO] if told(*setup, taken)[-1] > 0 else []
            self.assertEqual(told(*setup, taken, *back, *asked)[-len(asked):], told(*setup, *asked)[-len(asked):])

    def test_any_calls_are_answered_by_the_words(self):
        source = random.Random(3)
        for time in range(400):
            calls = [add()] + [some_call(source, 8) for number in range(59)]
            words = Words()
            self.assertEqual(told(*calls), [words.answer(call) for call in calls], calls)


if __name__ == "__main__":
    unittest.main()
