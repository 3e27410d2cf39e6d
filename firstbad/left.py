"""What the marks say: who may still be the culprit, and which changes can be tried."""

GOOD = 0
BAD = 1
SKIPPED = 2


def agrees(history, change, marked, kind):
    if kind == GOOD:
        return not history.before(change, marked)
    if kind == BAD:
        return history.before(change, marked)
    return True


def agrees_with_all(history, change, marks):
    for marked, kind in marks:
        if not agrees(history, change, marked, kind):
            return False
    return True


def those_left(history, bad, marks):
    # The change that the search began with says just what a mark as bad would say.
    known = [(bad, BAD)] + marks
    return [change for change in range(history.count()) if agrees_with_all(history, change, known)]


def those_to_try(history, marks):
    return [change for change in range(history.count()) if (change, SKIPPED) not in marks]
