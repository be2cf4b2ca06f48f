"""Circuits of registers and gates, and what they tell, tick by tick."""

from beatwires.circuitchecks import check_circuit, check_row, check_state, gates_in_order
from beatwires.errors import BadCircuit
from beatwires.gatebits import gate_bit


class Circuit:
    """Inputs, registers, gates and outputs, told by four tuples."""

    def __init__(self, inputs, registers, gates, outputs):
        check_circuit(inputs, registers, gates, outputs)
        self._ordered = gates_in_order(gates)
        self._known = {name: True for name in inputs}
        for told in registers + gates:
            self._known[told[0]] = True
        self.inputs = inputs
        self.registers = registers
        self.gates = gates
        self.outputs = outputs

    def starts(self):
        """The state of the starts."""
        return tuple([told[1] for told in self.registers])

    def values(self, state, row):
        """The dict of the bits of all nets for a state and a row."""
        return self.net_bits(state, row)

    def net_bits(self, state, row):
        """What values returns; for the package itself, in which values is a word of dicts alone."""
        check_state(self.registers, state)
        check_row(self.inputs, row)
        bits = {"0": 0, "1": 1}
        for name in self.inputs:
            bits[name] = row[name]
        for at, told in enumerate(self.registers):
            bits[told[0]] = state[at]
        for name, kind, nets in self._ordered:
            bits[name] = gate_bit(kind, [bits[net] for net in nets])
        return bits

    def tick(self, state, row):
        """The dict of the outputs, and the next state."""
        bits = self.net_bits(state, row)
        outputs = {name: bits[net] for name, net in self.outputs}
        return outputs, tuple([bits[told[2]] for told in self.registers])

    def __len__(self):
        return len(self.gates)

    def __contains__(self, name):
        return isinstance(name, str) and name in self._known

    def __eq__(self, other):
        if not isinstance(other, Circuit):
            return False
        if self.inputs != other.inputs or self.registers != other.registers:
            return False
        return self.gates == other.gates and self.outputs == other.outputs


def first_state(circuit, state):
    """The state from which a run begins: the starts if none is told."""
    if not isinstance(circuit, Circuit):
        raise BadCircuit(None)
    if state is None:
        return circuit.starts()
    check_state(circuit.registers, state)
    return state


def copied_rows(rows):
    """The rows as a new list of new dicts; what is no dict stays, and is told when its tick comes."""
    return [dict(row) if isinstance(row, dict) else row for row in rows]


def run(circuit, rows, /, *, state=None):
    """Generates the outputs of the ticks with some rows."""
    now = first_state(circuit, state)
    for row in copied_rows(rows):
        outputs, now = circuit.tick(now, row)
        yield outputs


def state_behind(circuit, rows, /, *, state=None):
    """The state behind the ticks with some rows."""
    now = first_state(circuit, state)
    for row in rows:
        _, now = circuit.tick(now, row)
    return now
