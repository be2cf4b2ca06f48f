"""Pairs of states of two circuits with the same inputs and outputs, and what they do for all rows."""

from beatwires.bitplanes import first_place
from beatwires.errors import Unlike
from beatwires.stepping import Steps, net_formula, plain_weights, row_of


def check_ports(one, other):
    """Raises Unlike if two circuits have other inputs, or other outputs."""
    if sorted(one.inputs) != sorted(other.inputs):
        raise Unlike("inputs")
    if output_names(one) != output_names(other):
        raise Unlike("outputs")


def output_names(circuit):
    """The ascending list of the names of the outputs."""
    return sorted([name for name, _ in circuit.outputs])


def pair_order(one, two):
    """The order of the names of the registers of two circuits, by turns."""
    firsts = [f"one.{told[0]}" for told in one.registers]
    seconds = [f"two.{told[0]}" for told in two.registers]
    order = []
    for at in range(max(len(firsts), len(seconds))):
        order.extend(firsts[at:at + 1] + seconds[at:at + 1])
    return tuple(order)


def shown_outputs(circuit):
    """The list of the formulas of the outputs, ascending by their names."""
    nets = dict(circuit.outputs)
    return [net_formula(nets[name]) for name in sorted(nets)]


class Pairs:
    """The pairs of states of two circuits, each told by a number: its bits are those of both, by turns."""

    def __init__(self, one, two):
        self.order = pair_order(one, two)
        self.inputs = one.inputs
        self.total = 1 << len(self.order)
        weights = plain_weights(len(self.order))
        sides = [[weights[at] for at, name in enumerate(self.order) if name[:4] == side] for side in ("one.", "two.")]
        self.first = Steps(one, self.inputs, shown_outputs(one), sides[0])
        self.second = Steps(two, self.inputs, shown_outputs(two), sides[1])
        self.begin = self.first.begin + self.second.begin
        self._mask = sum(sides[0])

    def halves(self, pair):
        """The state of the first circuit and that of the second one."""
        return pair & self._mask, pair & ~self._mask

    def heirs(self, pair):
        """The list of the next pairs for the rows, by their numbers."""
        firsts = self.first.heirs(pair & self._mask)
        seconds = self.second.heirs(pair & ~self._mask)
        return [one + two for one, two in zip(firsts, seconds)]

    def is_goal(self, pair):
        """Tells whether an output is unlike for some row."""
        return self.first.shown(pair & self._mask) != self.second.shown(pair & ~self._mask)

    def goal_row(self, pair):
        """The number of the first row for which an output is unlike."""
        firsts = self.first.shown(pair & self._mask)
        seconds = self.second.shown(pair & ~self._mask)
        unlike = 0
        for one, two in zip(firsts, seconds):
            unlike = unlike | (one ^ two)
        return first_place(unlike)

    def row(self, number):
        """The row with a number."""
        return row_of(self.inputs, number)
