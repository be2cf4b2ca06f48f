"""What is looked at in arguments and evidence ahead of all else, and what rows of evidence show."""

from beatwires.circuitchecks import check_row
from beatwires.circuits import Circuit
from beatwires.errors import BadCircuit, NoPart


def need_circuit(circuit):
    """Raises BadCircuit if a thing is no Circuit."""
    if not isinstance(circuit, Circuit):
        raise BadCircuit(None)


def need_rows(circuit, rows):
    """Raises BadRow if one of some rows has not just a bit for each input of a circuit."""
    for row in rows:
        check_row(circuit.inputs, row)


def register_names(circuit):
    """The list of the names of the registers of a circuit."""
    return [told[0] for told in circuit.registers]


def need_registers(circuit, names):
    """Raises NoPart with the first of some names that is no register, with None if they are no list or tuple."""
    if not isinstance(names, (list, tuple)):
        raise NoPart(None)
    known = register_names(circuit)
    for name in names:
        if name not in known:
            raise NoPart(name)


def tells_apart(one, other, states, rows):
    """Tells whether at the last one of some rows an output of two circuits is unlike, from a pair of states."""
    told = [({}, {})]
    first, second = states
    for row in rows:
        firsts, first = one.tick(first, row)
        seconds, second = other.tick(second, row)
        told.append((firsts, seconds))
    return told[-1][0] != told[-1][1]
