"""Histories and calls that tests make: every small one, and some greater ones from a source with a set seed."""

import itertools

from tests.helper import COUNT, LEFT, LIST, NEXT, REST, UNDO, add, before, mark, split, start


def small_histories(changes):
    """Every history of so many changes, but for the order of parents and for one standing twice."""
    choices = []
    for number in range(changes):
        most = min(number, 4)
        choices.append([row for size in range(most + 1) for row in itertools.combinations(range(number), size)])
    return itertools.product(*choices)


def some_history(source, changes):
    """From long lines to many changes apart, by how far back parents lie and by how many there are."""
    reach, sizes = source.choice([1, 2, 4, 6, changes]), source.choice([[1], [0, 1, 2], [1, 1, 2], [0, 0, 0, 4], [4]])
    parents = []
    for number in range(changes):
        size = source.choice(sizes) if number else 0
        lowest = max(0, number - reach)
        parents.append([source.randint(lowest, number - 1) for parent in range(size)])
    return parents


def adds(parents):
    return [add(*row) for row in parents]


def some_mark(source, changes):
    return mark(source.randrange(changes), source.choice([0, 1, 2]))


def some_call(source, changes):
    c, d = source.randint(0, changes), source.randint(0, changes)
    parents = [source.randint(0, changes) for parent in range(source.choice([0, 1, 1, 2, 2, 3, 4, 5]))]
    choices = [add(*parents), add(*[min(parent, 2) for parent in parents]), COUNT, before(c, d), start(c), UNDO]
    choices += [mark(c, source.choice([0, 0, 1, 1, 2, 2, 3])) for time in range(5)]
    return source.choice(choices)


def some_ask(source, changes):
    return source.choice([LEFT, LIST, NEXT, REST, split(source.randint(0, changes))])
