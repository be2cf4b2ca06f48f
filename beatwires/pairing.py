"""Pairs of states of two circuits with the same inputs and outputs, and what they do for all rows."""

from beatwires.bitplanes import first_place
from beatwires.errors import Unlike
from beatwires.moves import both_moves
from beatwires.stepping import Steps, net_formula, plain_weights, read_inputs


def check_ports(one, other):
    """Raises Unlike if two circuits have other inputs, or other outputs."""
    if sorted(one.inputs) != sorted(other.inputs):
        raise Unlike("inputs")
    if output_names(one) != output_names(other):
        raise Unlike("outputs")


def output_names(circuit):
    """The ascending list of the names of the outputs."""
    return sorted([name for name, _ in circuit.outputs])


def pair_order(one, two):
    """The order of the names of the registers of two circuits, by turns."""
    firsts = [f"one.{told[0]}" for told in one.registers]
    seconds = [f"two.{told[0]}" for told in two.registers]
    order = []
    for at in range(max(len(firsts), len(seconds))):
        order.extend(firsts[at:at + 1] + seconds[at:at + 1])
    return tuple(order)


def shown_outputs(circuit):
    """The list of the formulas of the outputs, ascending by their names."""
    nets = dict(circuit.outputs)
    return [net_formula(nets[name]) for name in sorted(nets)]


class Pairs:
    """The pairs of states of two circuits, each told by a number: its bits are those of both, by turns."""

    def __init__(self, one, two):
        self.order = pair_order(one, two)
        self.total = 1 << len(self.order)
        weights = plain_weights(len(self.order))
        firsts, seconds = [
            [weights[at] for at, name in enumerate(self.order) if name[:4] == side] for side in ("one.", "two.")]
        read = read_inputs(one, shown_outputs(one)) + read_inputs(two, shown_outputs(two))
        self._inputs = [name for name in one.inputs if name in read]
        self._mask = sum(firsts)
        self.first = Steps(one, self._inputs, shown_outputs(one), firsts)
        self.second = Steps(two, self._inputs, shown_outputs(two), seconds)
        self.begin = self.first.begin + self.second.begin

    def put_second(self, two):
        """Puts a circuit with the same registers in the place of the second one, which reads no other inputs."""
        self.second = Steps(two, self._inputs, shown_outputs(two), self.second.weights)
        self.begin = self.first.begin + self.second.begin

    def halves(self, pair):
        """The state of the first circuit and that of the second one."""
        return pair & self._mask, pair & ~self._mask

    def heirs(self, pair):
        """The list of the next pairs, perhaps more than once."""
        return both_moves(self.first.moves_from(pair & self._mask), self.second.moves_from(pair & ~self._mask))

    def row_to(self, pair, heir):
        """The number of the first row that leads from a pair to another one."""
        firsts = self.first.moves_from(pair & self._mask).by_rows()
        seconds = self.second.moves_from(pair & ~self._mask).by_rows()
        return [one + two for one, two in zip(firsts, seconds)].index(heir)

    def is_goal(self, pair):
        """Tells whether an output is unlike for some row."""
        return self.first.shown(pair & self._mask) != self.second.shown(pair & ~self._mask)

    def goal_row(self, pair):
        """The number of the first row for which an output is unlike."""
        firsts = self.first.shown(pair & self._mask)
        seconds = self.second.shown(pair & ~self._mask)
        unlike = 0
        for one, two in zip(firsts, seconds):
            unlike = unlike | (one ^ two)
        return first_place(unlike)

    def row(self, number):
        """The row with a number."""
        return self.first.row(number)
