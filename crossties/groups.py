"""Groups of numbers, which are put together."""


class Groups:
    """The numbers below a bound, in groups; at first each is one by itself."""

    def __init__(self, many):
        self._heads = list(range(many))
        self._members = [[k] for k in range(many)]

    def unite(self, i, j):
        """Put the groups of two numbers together, and tell whether they were two."""
        one = self._heads[i]
        other = self._heads[j]
        if one == other:
            return False
        # Only the lesser group gets another head, so that great groups do not take long.
        if len(self._members[one]) < len(self._members[other]):
            one, other = other, one
        moved = self._members[other]
        for k in moved:
            self._heads[k] = one
        self._members[one].extend(moved)
        self._members[other] = []
        return True

    def sizes(self):
        """Return the list of how many numbers each group has."""
        return [len(row) for row in self._members if row != []]
