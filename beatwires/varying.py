"""The states that differ from the starts in some registers at most."""

from beatwires.circuitchecks import is_state
from beatwires.evidencerows import register_names


def is_varied(circuit, names, state):
    """Tells whether a thing is a state that differs from the starts in some registers at most."""
    if not is_state(circuit.registers, state):
        return False
    begin = circuit.starts()
    return all([state[at] == begin[at] or name in names for at, name in enumerate(register_names(circuit))])


def varied_pairs(pairs, circuit, names):
    """The list of the numbers of the pairs of the starts and such a state, the starts themselves first."""
    told = [pairs.begin]
    for at, name in enumerate(register_names(circuit)):
        if name in names:
            told = told + [pair ^ pairs.second.weights[at] for pair in told]
    return told
