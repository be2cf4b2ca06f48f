"""The next states of a state, and the rows that lead to each of them."""

from beatwires.bitplanes import first_place, signs_of

# Ways that are no more than so many are kept by themselves: most states have few next ones, for however many rows.
MOST_WAYS = 16


class FewMoves:
    """Next states in a few ways: a state, and pairs of what is added to it and the plane of the rows that do so."""

    def __init__(self, base, ways):
        self.base = base
        self.ways = ways
        self._told = []

    def heirs(self):
        """The list of the next states, each once."""
        return [self.base + more for more, _ in self.ways]

    def where(self, plane):
        """The list of the next states for the rows of a plane, each once."""
        return [self.base + more for more, rows in self.ways if rows & plane]

    def row_to(self, heir, plane):
        """The number of the first row of a plane that leads to a next state."""
        return first_place([rows & plane for more, rows in self.ways if self.base + more == heir][0])

    def by_rows(self):
        """The list of the next states for the rows, by their numbers."""
        if not self._told:
            told = {}
            for more, rows in self.ways:
                left = rows
                while left:
                    told[first_place(left)] = self.base + more
                    left = left & (left - 1)
            self._told = [told[row] for row in range(len(told))]
        return self._told


class RowMoves:
    """Next states as a list for the rows, by their numbers."""

    def __init__(self, told):
        self.told = told
        self.ways = None

    def heirs(self):
        """The list of the next states, perhaps more than once."""
        return self.told

    def where(self, plane):
        """The list of the next states for the rows of a plane, perhaps more than once."""
        return [heir for heir, sign in zip(self.told, signs_of(plane, len(self.told))) if sign == "1"]

    def row_to(self, heir, plane):
        """The number of the first row of a plane that leads to a next state."""
        return [row for row, other in enumerate(self.told) if other == heir and (plane >> row) & 1][0]

    def by_rows(self):
        """The list of the next states for the rows, by their numbers."""
        return self.told


def split_ways(planes, weights, full):
    """The pairs of what the weights of some planes add up to and the plane of the rows that do so, None if too many."""
    ways = [(0, full)]
    for at, plane in enumerate(planes):
        split = []
        for more, rows in ways:
            on = rows & plane
            if on != rows:
                split.append((more, rows ^ on))
            if on:
                split.append((more + weights[at], on))
        ways = split
        if len(ways) > MOST_WAYS:
            return None
    return ways


def both_moves(one, two):
    """The list of the sums of the next states of two for the same rows."""
    if one.ways is None or two.ways is None:
        return [first + second for first, second in zip(one.by_rows(), two.by_rows())]
    base = one.base + two.base
    return [base + more + other for more, rows in one.ways for other, seen in two.ways if rows & seen]
