"""How a try parts those left, which change to try next, and how many more tries it takes at worst."""


def those_before(history, remaining, change):
    return [one for one in remaining if history.before(one, change)]


def those_not_before(history, remaining, change):
    return [one for one in remaining if not history.before(one, change)]


def share(history, remaining, change):
    staying = len(those_before(history, remaining, change))
    return min(staying, len(remaining) - staying)


def best_try(history, remaining, choices):
    # The choices rise, and a later one must part better than all before it: so of several the lowest
    # number stays, and a share of 0 is never taken.
    best = None
    greatest = 0
    for change in choices:
        parted = share(history, remaining, change)
        if parted > greatest:
            best = change
            greatest = parted
    return best


def groups_after_a_try(history, groups, choices):
    parts = []
    for group in groups:
        change = best_try(history, group, choices)
        if change is not None:
            parts.append(those_before(history, group, change))
            parts.append(those_not_before(history, group, change))
    return parts


def tries_at_worst(history, remaining, choices):
    # All answers are followed at once, one try a round: the round behind which no group can be
    # parted any more is the last try on the longest way. No way is followed by nested calls.
    tries = 0
    groups = groups_after_a_try(history, [remaining], choices)
    while len(groups) > 0:
        tries += 1
        groups = groups_after_a_try(history, groups, choices)
    return tries
