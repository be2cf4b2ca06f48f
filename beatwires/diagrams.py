"""Diagrams: for which bits of the names of an order something holds."""

from beatwires.diagramrows import EVER, NEVER, Branches, check_order, check_rows
from beatwires.errors import BadDiagram
from beatwires.formulachecks import check_named
from beatwires.names import is_bit


class Diagram:
    """The one diagram of a function in an order."""

    def __init__(self, order, rows, root):
        check_order(order)
        check_rows(order, rows, root)
        self.order = order
        self.rows = rows
        self.root = root

    @staticmethod
    def of(formula, order):
        """The diagram of a formula of names of an order."""
        check_order(order)
        check_named(formula, order)
        branches = Branches()
        root = branches.of_formula(formula, {name: at for at, name in enumerate(order)})
        rows, top = branches.rows_of(root)
        return Diagram(order, rows, top)

    def __call__(self, bits):
        if not isinstance(bits, dict) or not all([is_bit(bits.get(name)) for name in self.order]):
            raise BadDiagram("no dict of bits of all names")
        end = self.root
        while end >= 0:
            place, low, high = self.rows[end]
            end = high if bits[self.order[place]] else low
        return end == EVER

    def many(self):
        """For how many dicts of bits of all names it holds."""
        counts = {NEVER: 0, EVER: 1}
        places = {NEVER: len(self.order), EVER: len(self.order)}
        for at, (place, low, high) in enumerate(self.rows):
            # Each name between a row and its end may have either bit.
            counts[at] = sum([counts[end] << (places[end] - place - 1) for end in (low, high)])
            places[at] = place
        return counts[self.root] << places[self.root]

    def dicts(self):
        """Generates the dicts for which it holds, ascending by the bits in the order."""
        waiting = [((), self.root)]
        while waiting:
            bits, end = waiting.pop()
            if end == NEVER:
                continue
            if len(bits) == len(self.order):
                yield {name: bits[at] for at, name in enumerate(self.order)}
                continue
            ends = (end, end)
            if end >= 0 and self.rows[end][0] == len(bits):
                ends = self.rows[end][1:]
            waiting.append((bits + (1,), ends[1]))
            waiting.append((bits + (0,), ends[0]))

    def __len__(self):
        return len(self.rows)

    def __bool__(self):
        return bool(self.root != NEVER)

    def __eq__(self, other):
        if not isinstance(other, Diagram):
            return False
        return self.order == other.order and self.rows == other.rows and self.root == other.root
