"""The calls, coded as the interface says, and a way to read their answers."""

from firstbad.search import answers

GOOD, BAD, SKIPPED = 0, 1, 2
GREATEST = 18446744073709551615

COUNT = [1]
UNDO = [5]
LEFT = [6]
LIST = [7]
NEXT = [8]
REST = [10]

# All that can be asked of a search without naming a change.
STATE = [LEFT, LIST, NEXT, REST]


def add(*parents):
    return [0, len(parents), *parents]


def before(a, b):
    return [2, a, b]


def start(bad):
    return [3, bad]


def mark(c, kind):
    return [4, c, kind]


def split(c):
    return [9, c]


def good(*changes):
    return [mark(c, GOOD) for c in changes]


def bad(*changes):
    return [mark(c, BAD) for c in changes]


def skipped(*changes):
    return [mark(c, SKIPPED) for c in changes]


def line(length):
    """The adds of changes in a row, each the parent of the one behind it."""
    return [add()] + [add(number) for number in range(length - 1)]


# 0 - 1 - 2 - - - 5 - 6
#      \- 3 - 4 -/
FORK = [add(), add(0), add(1), add(1), add(3), add(2, 4), add(5)]

# Four changes apart, and the one that joins them.
STAR = [add(), add(), add(), add(), add(0, 1, 2, 3)]


def joined(calls):
    return [number for call in calls for number in call]


def is_lawful(calls):
    """Whether the interface lets such a list be handed in."""
    numbers = sum(len(call) - (call[0] == 0) for call in calls)
    return 1 <= len(calls) <= 60 and numbers <= 600


def rows(given):
    """The answers one by one, without the counts that stand before them."""
    found, at = [], 0
    while at < len(given):
        found.append(given[at + 1:at + 1 + given[at]])
        assert len(found[-1]) == given[at] >= 1, given
        at += 1 + given[at]
    return found


def told(*calls):
    """Each call's answer: a list's row, and of any other call its one number."""
    assert is_lawful(calls), calls
    found = rows(answers(joined(calls)))
    assert len(found) == len(calls), found
    for call, row in zip(calls, found):
        assert call == LIST or len(row) == 1, (call, row)
    return [row if call == LIST else row[0] for call, row in zip(calls, found)]


def told_after(setup, *calls):
    """The answers of those calls that come behind the setup."""
    return told(*setup, *calls)[len(setup):]
