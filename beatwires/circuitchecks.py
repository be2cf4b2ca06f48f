"""What must be so of the tuples of a circuit, and of its states and rows."""

from beatwires.chains import order_of, ring_in
from beatwires.errors import BadCircuit, BadRow, BadState, Looped
from beatwires.gatebits import JOINING
from beatwires.names import is_bit, is_name, is_net

MOST_PORTS = 60
MOST_NETS = 60
MOST_GATES = 2000


def check_circuit(inputs, registers, gates, outputs):
    """Raises BadCircuit for the first thing that is wrong with the tuples of a circuit, rings apart."""
    names_only = isinstance(inputs, tuple) and all([is_name(name) for name in inputs])
    if not names_only or len(set(inputs)) < len(inputs):
        raise BadCircuit(None)
    check_things(registers, MOST_PORTS, is_register)
    check_things(gates, MOST_GATES, is_gate)
    check_things(outputs, MOST_PORTS, is_output)
    names = list(inputs) + [told[0] for told in registers + gates]
    check_once(names)
    check_once([told[0] for told in outputs])
    check_nets(names, registers, gates, outputs)


def check_things(things, most, is_such):
    """Raises BadCircuit if things are no tuple of at most so many that are such."""
    if not isinstance(things, tuple) or len(things) > most:
        raise BadCircuit(None)
    for thing in things:
        if not is_such(thing):
            named = isinstance(thing, tuple) and len(thing) > 0 and is_name(thing[0])
            raise BadCircuit(thing[0] if named else None)


def is_register(thing):
    """Tells whether a thing is a triple of a name, a bit and a net."""
    if not isinstance(thing, tuple) or len(thing) != 3:
        return False
    return is_name(thing[0]) and is_bit(thing[1]) and is_net(thing[2])


def is_gate(thing):
    """Tells whether a thing is a triple of a name, a kind and a tuple of as many nets as this kind has."""
    if not isinstance(thing, tuple) or len(thing) != 3:
        return False
    name, kind, nets = thing
    if not is_name(name) or not isinstance(kind, str) or not isinstance(nets, tuple):
        return False
    return fits_kind(kind, len(nets)) and all([is_net(net) for net in nets])


def fits_kind(kind, many):
    """Tells whether a gate of a kind may have so many nets."""
    if kind in JOINING:
        return 2 <= many <= MOST_NETS
    return (kind, many) in (("not", 1), ("pick", 3))


def is_output(thing):
    """Tells whether a thing is a pair of a name and a net."""
    if not isinstance(thing, tuple) or len(thing) != 2:
        return False
    return is_name(thing[0]) and is_net(thing[1])


def check_once(names):
    """Raises BadCircuit with the first name that stood already."""
    seen = set()
    for name in names:
        if name in seen:
            raise BadCircuit(name)
        seen.add(name)


def check_nets(names, registers, gates, outputs):
    """Raises BadCircuit with the first register, gate or output that has a net that is none."""
    known = {"0": True, "1": True}
    for name in names:
        known[name] = True
    told = [(name, (net,)) for name, _, net in registers]
    told = told + [(name, nets) for name, _, nets in gates]
    told = told + [(name, (net,)) for name, net in outputs]
    for name, nets in told:
        if not all([net in known for net in nets]):
            raise BadCircuit(name)


def gates_in_order(gates):
    """The gates, each one behind those that it reads; raises Looped if some of them read each other."""
    reads = {name: nets for name, _, nets in gates}
    kinds = {name: kind for name, kind, _ in gates}
    ordered = order_of(reads)
    if len(ordered) < len(gates):
        raise Looped(ring_in(reads, ordered))
    return [(name, kinds[name], reads[name]) for name in ordered]


def is_state(registers, thing):
    """Tells whether a thing is a tuple of a bit for each register."""
    if not isinstance(thing, tuple) or len(thing) != len(registers):
        return False
    return all([is_bit(bit) for bit in thing])


def check_state(registers, state):
    """Raises BadState if a state is no tuple of a bit for each register."""
    if not is_state(registers, state):
        raise BadState("no tuple of a bit for each register")


def check_row(inputs, row):
    """Raises BadRow if a row is no dict of a bit for each input alone."""
    if not isinstance(row, dict) or len(row) != len(inputs):
        raise BadRow("no dict of just the inputs")
    if not all([name in row and is_bit(row[name]) for name in inputs]):
        raise BadRow("a row has a bit for each input")
