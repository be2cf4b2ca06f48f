"""The states that rows lead to from the starts, and by how many ticks."""

from beatwires.circuits import copied_rows, state_behind
from beatwires.evidencerows import need_circuit, need_rows, register_names
from beatwires.searching import layers_from, path_to, reach, rows_along
from beatwires.statesets import numbers_in, set_of
from beatwires.stepping import Steps, number_of_bits, plain_weights, read_inputs


def steps_of(circuit, asked):
    """The Steps of a circuit by itself, with some formulas that are asked."""
    return Steps(circuit, read_inputs(circuit, asked), asked, plain_weights(len(circuit.registers)))


def state_order(circuit):
    """The order of a diagram that tells a set of states."""
    return tuple(register_names(circuit))


def reached(circuit):
    """The set of the states that rows lead to from the starts."""
    need_circuit(circuit)
    steps = steps_of(circuit, [])
    return set_of(state_order(circuit), list(reach(steps, [steps.begin])))


class Deepest:
    """By how many ticks all states are reached, rows to a last one, and the sets of those reached first at each."""

    def __init__(self, number, rows, layers):
        self.number = number
        self.rows = copied_rows(rows)
        self.layers = list(layers)

    def shows(self, circuit):
        """Tells whether these are the layers of a circuit, and rows to its last one."""
        need_circuit(circuit)
        need_rows(circuit, self.rows)
        if len(self.rows) != self.number or len(self.layers) != self.number + 1:
            return False
        steps = steps_of(circuit, [])
        _, told = layers_from(steps, [steps.begin])
        if len(told) != len(self.layers):
            return False
        order = state_order(circuit)
        for at, layer in enumerate(self.layers):
            if layer.order != order or numbers_in(layer) != sorted(told[at]):
                return False
        return number_of_bits(state_behind(circuit, self.rows), steps.weights) in told[-1]

    def __eq__(self, other):
        if not isinstance(other, Deepest):
            return False
        return self.number == other.number and self.rows == other.rows and self.layers == other.layers


def deepest(circuit):
    """The Deepest of a circuit."""
    need_circuit(circuit)
    steps = steps_of(circuit, [])
    found, layers = layers_from(steps, [steps.begin])
    rows = rows_along(steps, path_to(found, layers[-1][0]))
    order = state_order(circuit)
    return Deepest(len(layers) - 1, rows, [set_of(order, layer) for layer in layers])
