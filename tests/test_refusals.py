"""Each refusal of each call, in the order told, and that what is refused changes nothing."""

import unittest

from tests.helper import (
    COUNT, FORK, GREATEST, LEFT, LIST, NEXT, REST, STATE, UNDO, add, bad, before, good, line, mark, skipped, split,
    start, told, told_after)

NO_CHANGES = []
NO_SEARCH = line(3)
SEARCH = FORK + [start(6)]
MARKED = FORK + [start(6)] + skipped(4) + good(1)
ONE_LEFT = line(4) + [start(3)] + good(1) + bad(2)
NOT_PARTED = line(4) + [start(3)] + skipped(1, 2) + good(0)

# Before what call, the call, and its refusal.
REFUSED = (
    (NO_CHANGES, add(0), -1),
    (NO_SEARCH, add(3), -1),
    (NO_SEARCH, add(0, 1, 2, 3), -1),
    (NO_SEARCH, add(0, 0, 0, 0, 0), -1),
    (MARKED, add(GREATEST), -1),
    (MARKED, add(0, 1, 2, 3, 4), -1),
    (NO_CHANGES, before(0, 0), -1),
    (NO_SEARCH, before(0, 3), -1),
    (NO_SEARCH, before(3, 0), -1),
    (MARKED, before(GREATEST, GREATEST), -1),
    (NO_CHANGES, start(0), -1),
    (NO_SEARCH, start(3), -1),
    (MARKED, start(7), -1),
    (MARKED, start(GREATEST), -1),
    (NO_CHANGES, mark(0, 0), -1),
    (NO_CHANGES, mark(0, 3), -1),
    (NO_SEARCH, mark(3, 1), -1),
    (NO_SEARCH, mark(0, 3), -1),
    (NO_SEARCH, mark(0, 0), -3),
    (NO_SEARCH, mark(2, 1), -3),
    (NO_SEARCH, mark(1, 2), -3),
    (SEARCH, mark(7, 2), -1),
    (MARKED, mark(7, 0), -1),
    (MARKED, mark(6, 3), -1),
    (MARKED, mark(6, GREATEST), -1),
    (SEARCH, mark(6, 0), -4),
    (MARKED, mark(6, 0), -4),
    (MARKED, mark(0, 1), -4),
    (ONE_LEFT, mark(2, 0), -4),
    (ONE_LEFT, mark(1, 1), -4),
    (NO_CHANGES, UNDO, -3),
    (NO_SEARCH, UNDO, -3),
    (NO_CHANGES, LEFT, -3),
    (NO_SEARCH, LEFT, -3),
    (NO_CHANGES, LIST, [-3]),
    (NO_SEARCH, LIST, [-3]),
    (NO_CHANGES, NEXT, -3),
    (NO_SEARCH, NEXT, -3),
    (ONE_LEFT, NEXT, -6),
    (NOT_PARTED, NEXT, -7),
    (NO_CHANGES, split(0), -1),
    (NO_SEARCH, split(3), -1),
    (NO_SEARCH, split(0), -3),
    (MARKED, split(7), -1),
    (MARKED, split(GREATEST), -1),
    (NO_CHANGES, REST, -3),
    (NO_SEARCH, REST, -3),
)

ASKED = [COUNT, *STATE, before(0, 1), split(0), UNDO, *STATE, UNDO, *STATE, UNDO, add(0), add(), COUNT, start(1), *STATE]


class RefusalsTest(unittest.TestCase):
    def test_each_refusal(self):
        for setup, call, refusal in REFUSED:
            with self.subTest(setup=setup, call=call):
                self.assertEqual(told_after(setup, call), [refusal])

    def test_what_is_refused_changes_nothing(self):
        for setup, call, refusal in REFUSED:
            with self.subTest(setup=setup, call=call):
                self.assertEqual(told_after(setup + [call], *ASKED), told_after(setup, *ASKED))
                self.assertEqual(told_after(setup + [call, call], *ASKED), told_after(setup, *ASKED))

    def test_all_that_is_refused_at_one_place_together(self):
        for place in (NO_CHANGES, NO_SEARCH, SEARCH, MARKED, ONE_LEFT, NOT_PARTED):
            calls = [call for setup, call, refusal in REFUSED if setup is place]
            refusals = [refusal for setup, call, refusal in REFUSED if setup is place]
            self.assertEqual(told_after(place, *calls, *ASKED), refusals + told_after(place, *ASKED))

    def test_count_is_never_refused(self):
        for place, changes in ((NO_CHANGES, 0), (NO_SEARCH, 3), (SEARCH, 7), (MARKED, 7)):
            self.assertEqual(told(*place, COUNT)[-1], changes)


if __name__ == "__main__":
    unittest.main()
