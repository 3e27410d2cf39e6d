"""The promises, of many histories, against the words of the document taken one by one."""

import itertools
import random
import unittest

from tests.helper import BAD, GOOD, LIST, SKIPPED, STATE, UNDO, add, mark, skipped, split, start, told, told_after
from tests.histories import adds, small_histories, some_ask, some_call, some_history, some_mark
from tests.words import Words, is_before, left, parts


class LeftPromiseTest(unittest.TestCase):
    def test_left_is_what_the_marks_do_not_rule_out(self):
        kinds = list(itertools.product(range(4), (GOOD, BAD, SKIPPED)))
        for parents in small_histories(4):
            for bad, first in itertools.product(range(4), kinds):
                for half in (kinds[:6], kinds[6:]):
                    calls = adds(parents)
                    for second in half:
                        calls += [start(bad), LIST, mark(*first), mark(*second), LIST, UNDO, UNDO]
                    words = Words()
                    self.assertEqual(told(*calls), [words.answer(call) for call in calls], calls)

    def test_the_culprit_is_always_left(self):
        source = random.Random(1)
        for time in range(150):
            parents = some_history(source, 14)
            bad = source.randrange(14)
            culprit = source.choice([x for x in range(14) if is_before(parents, x, bad)])
            tried = source.sample(range(14), 14)
            marks = [(c, BAD if is_before(parents, culprit, c) else GOOD) for c in tried]
            calls = [start(bad), LIST]
            for one in marks:
                calls += [mark(*one), LIST]
            given = told_after(adds(parents), *calls)
            lists = given[1::2]
            self.assertEqual(lists, [left(parents, bad, marks[:n]) for n in range(15)])
            self.assertEqual(given[0::2], [len(row) for row in lists])
            for row in lists:
                self.assertIn(culprit, row)
            self.assertEqual(lists[-1], [culprit])

    def test_changes_added_in_the_midst_do_not_count_as_left(self):
        source = random.Random(4)
        for time in range(150):
            parents = some_history(source, 16)
            setup = adds(parents[:8]) + [start(source.randrange(8))]
            setup += [some_mark(source, 8) for number in range(source.randrange(4))]
            first, second = told_after(setup, LIST, *adds(parents[8:]), LIST)[0::9]
            self.assertEqual(first, second)


class UndoPromiseTest(unittest.TestCase):
    def test_a_mark_taken_back_leaves_all_as_before_it(self):
        source = random.Random(2)
        for time in range(200):
            setup = adds(some_history(source, 10)) + [start(9)]
            setup += [some_mark(source, 10) for number in range(4)]
            asked = STATE + [split(c) for c in range(10)] + [some_mark(source, 10), *STATE] + [UNDO] * 6 + STATE
            taken = some_mark(source, 10)
            back = [UNDO] if told(*setup, taken)[-1] > 0 else []
            self.assertEqual(told_after(setup + [taken] + back, *asked), told_after(setup, *asked))

    def test_step_by_step_down_to_no_mark(self):
        source = random.Random(5)
        for time in range(150):
            setup = adds(some_history(source, 9)) + [start(source.randrange(9))]
            taken = []
            for call in [some_mark(source, 9) for number in range(12)]:
                if len(taken) < 4 and told(*setup, *taken, call)[-1] > 0:
                    taken.append(call)
            upwards = [told_after(setup + taken[:n], *STATE) for n in range(len(taken) + 1)]
            downwards = told_after(setup + taken, *STATE, *([UNDO] + STATE) * len(taken))
            self.assertEqual([downwards[n:n + 4] for n in range(0, len(downwards), 5)], upwards[::-1])


class WordsTest(unittest.TestCase):
    def test_any_calls_are_answered_by_the_words(self):
        source = random.Random(3)
        for time in range(400):
            calls = [add()]
            while len(calls) < 60:
                calls.append(source.choice([some_call, some_call, some_ask])(source, 8))
            words = Words()
            self.assertEqual(told(*calls), [words.answer(call) for call in calls], calls)

    def test_all_is_asked_of_greater_histories(self):
        source = random.Random(6)
        for time in range(200):
            changes = source.randint(8, 24)
            calls = adds(some_history(source, changes)) + [start(source.randint(changes - 4, changes - 1)), *STATE]
            calls += skipped(*source.sample(range(changes), source.choice([0, 2, 5]))) + STATE
            while len(calls) < 56:
                calls.append(source.choice([some_mark, some_ask, some_call])(source, changes))
            calls += STATE
            words = Words()
            self.assertEqual(told(*calls), [words.answer(call) for call in calls], calls)

    def test_what_is_asked_changes_nothing(self):
        source = random.Random(7)
        for time in range(200):
            calls = [add(), add(0)] + [some_call(source, 6) for number in range(28)]
            asked = []
            for call in calls:
                asked += [call, some_ask(source, 6)]
            self.assertEqual(told(*asked)[0::2], told(*calls), asked)


def cases_of_small_histories():
    for parents in small_histories(4):
        for bad in range(4):
            for skips in itertools.chain.from_iterable(itertools.combinations(range(4), n) for n in range(5)):
                yield list(parents), bad, list(skips)
    for parents in small_histories(5):
        yield list(parents), 4, []


def some_cases(seed, times):
    source = random.Random(seed)
    for time in range(times):
        changes = source.randint(6, 16)
        skips = source.sample(range(changes), source.choice([0, 0, 1, 3, 6]))
        yield some_history(source, changes), changes - 1, skips


class NextAndRestPromiseTest(unittest.TestCase):
    def check_bounds(self, parents, bad, skips):
        setup = adds(parents) + [start(bad)] + skipped(*skips)
        number, row, following, rest, *splits = told_after(setup, *STATE, *map(split, range(len(parents))))
        self.assertEqual(splits, [len(parts(parents, row, c)[0]) for c in range(len(parents))])
        shares = {c: min(splits[c], number - splits[c]) for c in range(len(parents)) if c not in skips}
        greatest = max(shares.values(), default=0)
        if following < 0:
            self.assertEqual((greatest, rest), (0, 0))
            self.assertEqual(following, -6 if number == 1 else -7)
        else:
            self.assertGreater(greatest, 0)
            self.assertEqual(following, min(c for c in shares if shares[c] == greatest))
            rests = [told_after(setup, mark(following, kind), *STATE)[-1] for kind in (GOOD, BAD)]
            self.assertEqual(rest, 1 + max(rests))
        self.assertLessEqual(rest, number - 1)
        if not skips:
            self.assertEqual(rest == 0, number == 1)

    def test_small_histories(self):
        for case in cases_of_small_histories():
            with self.subTest(case):
                self.check_bounds(*case)

    def test_greater_histories(self):
        for case in some_cases(8, 250):
            with self.subTest(case):
                self.check_bounds(*case)


class LedSearchTest(unittest.TestCase):
    """MAIN: the culprit is always among those left, and no more tries are needed than were told."""

    def lead(self, parents, bad, skips, culprit):
        setup = adds(parents) + [start(bad)] + skipped(*skips)
        first = rest = told_after(setup, *STATE)[-1]
        tries = 0
        while True:
            number, row, following, now = told_after(setup, *STATE)
            self.assertIn(culprit, row)
            self.assertEqual(number, len(row))
            self.assertLessEqual(now, rest)
            if following < 0:
                break
            self.assertGreater(now, 0)
            self.assertNotIn(following, skips)
            setup.append(mark(following, BAD if is_before(parents, culprit, following) else GOOD))
            tries, rest = tries + 1, now - 1
        self.assertLessEqual(tries, first)
        self.assertEqual(now, 0)
        self.assertEqual(following, -6 if row == [culprit] else -7)
        if not skips:
            self.assertEqual(row, [culprit])
        return tries

    def lead_all(self, case):
        parents, bad, skips = case
        tries = [self.lead(*case, culprit) for culprit in range(len(parents)) if is_before(parents, culprit, bad)]
        self.assertEqual(max(tries), told(*adds(parents), start(bad), *skipped(*skips), *STATE)[-1])

    def test_small_histories(self):
        for case in cases_of_small_histories():
            with self.subTest(case):
                self.lead_all(case)

    def test_greater_histories(self):
        for case in some_cases(9, 60):
            with self.subTest(case):
                self.lead_all(case)


if __name__ == "__main__":
    unittest.main()
