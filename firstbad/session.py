"""The calls on one history and its search: each gives back its answer, or its refusal as a number below 0."""

from firstbad.history import History
from firstbad.left import SKIPPED, those_left

MOST_PARENTS = 4
MOST_CHANGES = 512
MOST_MARKS = 1024

UNKNOWN = -1
FULL = -2
NO_SEARCH = -3
NOBODY_LEFT = -4


class Session:
    def __init__(self):
        self.history = History()
        # None as long as no search is on.
        self.bad = None
        self.marks = []

    def add(self, parents):
        if len(parents) > MOST_PARENTS or not self.history.has_all(parents):
            return UNKNOWN
        if self.history.count() >= MOST_CHANGES:
            return FULL
        return self.history.add(parents)

    def count(self):
        return self.history.count()

    def before(self, a, b):
        if not self.history.has_all([a, b]):
            return UNKNOWN
        return 1 if self.history.before(a, b) else 0

    def start(self, bad):
        if not self.history.has(bad):
            return UNKNOWN
        self.bad = bad
        self.marks = []
        return len(those_left(self.history, bad, []))

    def mark(self, change, kind):
        if not self.history.has(change) or kind > SKIPPED:
            return UNKNOWN
        if self.bad is None:
            return NO_SEARCH
        if len(self.marks) >= MOST_MARKS:
            return FULL
        marks = self.marks + [(change, kind)]
        remaining = those_left(self.history, self.bad, marks)
        if len(remaining) == 0:
            return NOBODY_LEFT
        self.marks = marks
        return len(remaining)

    def undo(self):
        if self.bad is None:
            return NO_SEARCH
        if len(self.marks) == 0:
            return 0
        self.marks.pop()
        return 1
