"""Rows of diagrams: which ones are well told, and those of a formula in an order."""

from beatwires.errors import BadDiagram, BadOrder
from beatwires.formulachecks import parts_of
from beatwires.names import is_name, is_number

NEVER = -1
EVER = -2
MOST_NAMES = 120
LONGEST_PLACED = 32


def check_order(order):
    """Raises BadOrder if an order is no tuple of names, each once."""
    if not isinstance(order, tuple) or len(order) > MOST_NAMES:
        raise BadOrder("no tuple of so many names")
    if not all([is_name(name, LONGEST_PLACED) for name in order]):
        raise BadOrder("an order has names alone")
    if len(set(order)) < len(order):
        raise BadOrder("a name stands twice")


def check_rows(order, rows, root):
    """Raises BadDiagram if rows and root are not those of a diagram in this order."""
    if not isinstance(rows, tuple):
        raise BadDiagram("rows are no tuple")
    for at in range(len(rows)):
        if not is_row(rows, at, len(order)):
            raise BadDiagram("a row is none")
    if len(set(rows)) < len(rows):
        raise BadDiagram("two rows are the same")
    if not is_end(rows, len(rows), root, -1):
        raise BadDiagram("the root is no end")
    if rows_behind(rows, root) != list(range(len(rows))):
        raise BadDiagram("the rows are not those of the root, in their order")


def is_row(rows, at, many):
    """Tells whether the row at this place is one for an order of so many names."""
    row = rows[at]
    if not isinstance(row, tuple) or len(row) != 3:
        return False
    place, low, high = row
    if not is_number(place) or not 0 <= place < many:
        return False
    return is_end(rows, at, low, place) and is_end(rows, at, high, place) and low != high


def is_end(rows, at, end, place):
    """Tells whether an end is told, or an earlier row whose name comes later."""
    if not is_number(end) or not EVER <= end < at:
        return False
    return end < 0 or rows[end][0] > place


def rows_behind(rows, root):
    """The places of the rows that an end leads to, each behind those of its end for 0, then for 1."""
    found = []
    done = {}
    waiting = [root]
    while waiting:
        at = waiting[-1]
        if at < 0 or at in done:
            waiting.pop()
            continue
        ends = [end for end in rows[at][1:] if end >= 0 and end not in done]
        if ends:
            waiting.append(ends[0])
        else:
            waiting.pop()
            done[at] = True
            found.append(at)
    return found


class Branches:
    """A growing store of rows, in which equal functions have the same end."""

    def __init__(self):
        self.rows = []
        self._places = {}
        self._chosen = {}

    def branch(self, place, low, high):
        """The end of what is the one for 0 and the other for 1 of the name at a place."""
        if low == high:
            return low
        row = (place, low, high)
        if row not in self._places:
            self._places[row] = len(self.rows)
            self.rows.append(row)
        return self._places[row]

    def choose(self, asked, one, other):
        """The end of what is one where asked holds, and other where it does not."""
        if asked < 0:
            return one if asked == EVER else other
        if one == other:
            return one
        if one == EVER and other == NEVER:
            return asked
        key = (asked, one, other)
        if key not in self._chosen:
            place = min([self.rows[end][0] for end in key if end >= 0])
            low = self.choose(self.side(asked, place, 0), self.side(one, place, 0), self.side(other, place, 0))
            high = self.choose(self.side(asked, place, 1), self.side(one, place, 1), self.side(other, place, 1))
            self._chosen[key] = self.branch(place, low, high)
        return self._chosen[key]

    def side(self, end, place, bit):
        """The end behind a bit of the name at a place, ahead of which nothing is asked."""
        if end < 0 or self.rows[end][0] != place:
            return end
        return self.rows[end][1 + bit]

    def of_gate(self, kind, ends):
        """The end of what a gate of a kind tells of some ends."""
        if kind == "not":
            return self.choose(ends[0], NEVER, EVER)
        if kind == "pick":
            return self.choose(ends[0], ends[1], ends[2])
        told = ends[0]
        for end in ends[1:]:
            if kind == "and":
                told = self.choose(told, end, NEVER)
            elif kind == "or":
                told = self.choose(told, EVER, end)
            else:
                told = self.choose(told, self.choose(end, NEVER, EVER), end)
        return told

    def of_formula(self, formula, places):
        """The end of a formula, for a dict of the places of its names."""
        if formula[0] == "name":
            return self.branch(places[formula[1]], NEVER, EVER)
        if formula[0] == "bit":
            return EVER if formula[1] else NEVER
        return self.of_gate(formula[0], [self.of_formula(part, places) for part in parts_of(formula)])

    def rows_of(self, root):
        """The rows and the root of the diagram of an end."""
        found = rows_behind(self.rows, root)
        places = {NEVER: NEVER, EVER: EVER}
        rows = []
        for at in found:
            place, low, high = self.rows[at]
            places[at] = len(rows)
            rows.append((place, places[low], places[high]))
        return tuple(rows), places[root]
