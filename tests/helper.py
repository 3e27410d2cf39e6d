"""The calls, coded as the interface says, and a way to read their answers."""

from firstbad.search import answers

GOOD, BAD, SKIPPED = 0, 1, 2
GREATEST = 18446744073709551615

COUNT = [1]
UNDO = [5]


def add(*parents):
    return [0, len(parents), *parents]


def before(a, b):
    return [2, a, b]


def start(bad):
    return [3, bad]


def mark(c, kind):
    return [4, c, kind]


def line(length):
    """The adds of changes in a row, each the parent of the one behind it."""
    return [add()] + [add(number) for number in range(length - 1)]


# 0 - 1 - 2 - - - 5 - 6
#      \- 3 - 4 -/
FORK = [add(), add(0), add(1), add(1), add(3), add(2, 4), add(5)]


def joined(calls):
    return [number for call in calls for number in call]


def told(*calls):
    """Each call's answer; none of these calls answers more than one number."""
    given = answers(joined(calls))
    assert given[0::2] == [1] * len(calls), given
    return given[1::2]


def told_after(setup, *calls):
    """The answers of those calls that come behind the setup."""
    return told(*setup, *calls)[len(setup):]
