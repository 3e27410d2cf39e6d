"""The document's words taken one by one, all worked out anew each time, to hold the program's answers against."""

from tests.helper import BAD, LIST, SKIPPED


def is_before(parents, a, b):
    found = [b]
    for change in found:
        found += [parent for parent in parents[change] if parent not in found]
    return a in found


def is_true(parents, culprit, marked, kind):
    return kind == SKIPPED or is_before(parents, culprit, marked) == (kind == BAD)


def left(parents, bad, marks):
    known = [(bad, BAD)] + marks
    return [x for x in range(len(parents)) if all(is_true(parents, x, *one) for one in known)]


def parts(parents, remaining, c):
    """Those who stay if c is bad, and those who stay if it's good."""
    return ([x for x in remaining if is_before(parents, x, c)], [x for x in remaining if not is_before(parents, x, c)])


def next_try(parents, remaining, skips):
    shares = {c: min(map(len, parts(parents, remaining, c))) for c in range(len(parents)) if c not in skips}
    greatest = max(shares.values(), default=0)
    return min(c for c in shares if shares[c] == greatest) if greatest else None


def rest(parents, remaining, skips):
    c = next_try(parents, remaining, skips)
    return 0 if c is None else 1 + max(rest(parents, part, skips) for part in parts(parents, remaining, c))


class Words:
    """What each call answers by the words."""

    def __init__(self):
        self.parents, self.bad, self.marks = [], None, []

    def answer(self, call):
        named = [self.add, self.count, self.before, self.start, self.mark, self.undo, self.left, self.listed,
                 self.next_try, self.split, self.rest]
        given = [call[2:]] if call[0] == 0 else call[1:]
        found = named[call[0]](*given)
        return [found] if call == LIST and found == -3 else found

    def lacks(self, *changes):
        return any(change >= len(self.parents) for change in changes)

    def remaining(self):
        return left(self.parents, self.bad, self.marks)

    def skips(self):
        return [c for c, kind in self.marks if kind == SKIPPED]

    def add(self, parents):
        if len(parents) > 4 or self.lacks(*parents):
            return -1
        self.parents.append(parents)
        return len(self.parents) - 1

    def count(self):
        return len(self.parents)

    def before(self, a, b):
        return -1 if self.lacks(a, b) else int(is_before(self.parents, a, b))

    def start(self, bad):
        if self.lacks(bad):
            return -1
        self.bad, self.marks = bad, []
        return len(self.remaining())

    def mark(self, c, kind):
        if self.lacks(c) or kind > 2:
            return -1
        if self.bad is None:
            return -3
        remaining = left(self.parents, self.bad, self.marks + [(c, kind)])
        if not remaining:
            return -4
        self.marks.append((c, kind))
        return len(remaining)

    def undo(self):
        if self.bad is None:
            return -3
        return int(bool(self.marks) and bool(self.marks.pop()))

    def left(self):
        return -3 if self.bad is None else len(self.remaining())

    def listed(self):
        return -3 if self.bad is None else self.remaining()

    def next_try(self):
        if self.bad is None:
            return -3
        c = next_try(self.parents, self.remaining(), self.skips())
        if c is not None:
            return c
        return -6 if self.left() == 1 else -7

    def split(self, c):
        if self.lacks(c):
            return -1
        return -3 if self.bad is None else len(parts(self.parents, self.remaining(), c)[0])

    def rest(self):
        return -3 if self.bad is None else rest(self.parents, self.remaining(), self.skips())
