"""The calls on one history and its search: each gives back its answer, or its refusal as a number below 0."""

from firstbad.history import History
from firstbad.left import SKIPPED, those_left, those_to_try
from firstbad.tries import best_try, those_before, tries_at_worst

MOST_PARENTS = 4
MOST_CHANGES = 512
MOST_MARKS = 1024

UNKNOWN = -1
FULL = -2
NO_SEARCH = -3
NOBODY_LEFT = -4
FOUND = -6
NOT_PARTED = -7


class Session:
    def __init__(self):
        self.history = History()
        # None as long as no search is on.
        self.bad = None
        self.marks = []

    def add(self, parents):
        if len(parents) > MOST_PARENTS or not self.history.has_all(parents):
            return UNKNOWN
        if self.history.count() >= MOST_CHANGES:
            return FULL
        return self.history.add(parents)

    def count(self):
        return self.history.count()

    def before(self, a, b):
        if not self.history.has_all([a, b]):
            return UNKNOWN
        return 1 if self.history.before(a, b) else 0

    def start(self, bad):
        if not self.history.has(bad):
            return UNKNOWN
        self.bad = bad
        self.marks = []
        return self.left()

    def mark(self, change, kind):
        if not self.history.has(change) or kind > SKIPPED:
            return UNKNOWN
        if self.bad is None:
            return NO_SEARCH
        if len(self.marks) >= MOST_MARKS:
            return FULL
        marks = self.marks + [(change, kind)]
        remaining = those_left(self.history, self.bad, marks)
        if len(remaining) == 0:
            return NOBODY_LEFT
        self.marks = marks
        return len(remaining)

    def undo(self):
        if self.bad is None:
            return NO_SEARCH
        if len(self.marks) == 0:
            return 0
        self.marks.pop()
        return 1

    def all_left(self):
        return those_left(self.history, self.bad, self.marks)

    def left(self):
        if self.bad is None:
            return NO_SEARCH
        return len(self.all_left())

    def listed(self):
        # The one answer of several numbers, so its refusal is a row too.
        if self.bad is None:
            return [NO_SEARCH]
        return self.all_left()

    def next_try(self):
        if self.bad is None:
            return NO_SEARCH
        remaining = self.all_left()
        change = best_try(self.history, remaining, those_to_try(self.history, self.marks))
        if change is not None:
            return change
        return FOUND if len(remaining) == 1 else NOT_PARTED

    def split(self, change):
        if not self.history.has(change):
            return UNKNOWN
        if self.bad is None:
            return NO_SEARCH
        return len(those_before(self.history, self.all_left(), change))

    def rest(self):
        if self.bad is None:
            return NO_SEARCH
        return tries_at_worst(self.history, self.all_left(), those_to_try(self.history, self.marks))
