"""Registers moved forth and back over gates."""

from beatwires.circuits import Circuit
from beatwires.errors import NoPart
from beatwires.evidencerows import need_circuit
from beatwires.gatebits import gate_bit


def free_names(circuit, many):
    """The list of so many names that nothing in a circuit has."""
    names = []
    at = 0
    while len(names) < many:
        name = f"moved{at}"
        at += 1
        if name not in circuit:
            names.append(name)
    return names


def told_as(things, name):
    """The register or gate of a name among some."""
    for told in things:
        if told[0] == name:
            return told
    raise NoPart(name)


def put_for(things, name, more):
    """The tuple of some registers or gates, with a list of others in the place of the one with a name."""
    at = [told[0] for told in things].index(name)
    return things[:at] + tuple(more) + things[at + 1:]


def start_bit(kind, nets, starts):
    """The bit of a gate of a kind for a dict of the bits of its nets that are names."""
    return gate_bit(kind, [starts[net] if net in starts else int(net) for net in nets])


def forward(circuit, name):
    """A circuit with a register in the place of a gate that reads registers and bits alone, None if it reads more."""
    need_circuit(circuit)
    _, kind, nets = told_as(circuit.gates, name)
    starts = {told: start for told, start, _ in circuit.registers}
    goals = {told: net for told, _, net in circuit.registers}
    if not all([net in starts or net in ("0", "1") for net in nets]):
        return None
    gate = (free_names(circuit, 1)[0], kind, tuple([goals.get(net, net) for net in nets]))
    held = (name, start_bit(kind, nets, starts), gate[0])
    gates = put_for(circuit.gates, name, [gate])
    return Circuit(circuit.inputs, circuit.registers + (held,), gates, circuit.outputs)


def readers(circuit, name):
    """How often something reads a name."""
    nets = [net for _, _, net in circuit.registers] + [net for _, net in circuit.outputs]
    nets.extend([net for _, _, read in circuit.gates for net in read])
    return nets.count(name)


def starts_for(kind, nets, start):
    """A dict of bits for the names among some nets by which a gate of a kind has a bit, None if there is none."""
    names = sorted({net for net in nets if net not in ("0", "1")})
    # What a gate can have it has by zeros alone, by ones alone, or by a single one.
    tries = [names] + [[name] for name in names] + [[]]
    for ones in tries:
        starts = {name: 1 if name in ones else 0 for name in names}
        if start_bit(kind, nets, starts) == start:
            return starts
    return None


def backward(circuit, name):
    """A circuit with a gate in the place of a register, and registers for what it reads; None if there is none."""
    need_circuit(circuit)
    _, start, goal = told_as(circuit.registers, name)
    found = [gate for gate in circuit.gates if gate[0] == goal]
    if not found or readers(circuit, goal) > 1:
        return None
    _, kind, nets = found[0]
    starts = starts_for(kind, nets, start)
    if starts is None:
        return None
    names = [net for at, net in enumerate(nets) if net in starts and net not in nets[:at]]
    held = dict(zip(names, free_names(circuit, len(names))))
    registers = put_for(circuit.registers, name, [(held[net], starts[net], net) for net in names])
    gates = put_for(circuit.gates, goal, [(name, kind, tuple([held.get(net, net) for net in nets]))])
    return Circuit(circuit.inputs, registers, gates, circuit.outputs)
