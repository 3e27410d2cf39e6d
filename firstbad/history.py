"""A history: changes numbered from 0, and which change is before which."""


class History:
    def __init__(self):
        # One dict of True for each change: all that are before it. A change's parents
        # never alter, so what is worked out when it is added stays right.
        self.befores = []

    def count(self):
        return len(self.befores)

    def has(self, change):
        return change < len(self.befores)

    def has_all(self, changes):
        return all([self.has(change) for change in changes])

    def add(self, parents):
        number = len(self.befores)
        earlier = {number: True}
        for parent in parents:
            earlier.update(self.befores[parent])
        self.befores.append(earlier)
        return number

    def before(self, a, b):
        return a in self.befores[b]
