"""Registers that are never read, and what stands still without being told."""

from beatwires.alikes import judge_alike
from beatwires.circuits import Circuit, copied_rows, state_behind
from beatwires.errors import BadRow, NoPart
from beatwires.evidencerows import need_circuit, need_rows, register_names, tells_apart
from beatwires.layers import state_order, steps_of
from beatwires.likestates import like_classes
from beatwires.names import is_bit
from beatwires.pairing import Pairs, shown_outputs
from beatwires.searching import is_closed, path_to, reach, rows_along, rows_to_goal, seek, stays_within
from beatwires.statesets import members, set_of


class Unread:
    """A register is never read: a set of states that no row leads out of, and a closed set of pairs."""

    def __init__(self, states, closed):
        self.states = states
        self.closed = closed

    def shows(self, circuit, name):
        """Tells whether this shows that a register of a circuit is never read."""
        check_asked(circuit, name)
        pairs = Pairs(circuit, circuit)
        if self.states.order != state_order(circuit) or self.closed.order != pairs.order:
            return False
        steps = steps_of(circuit, [])
        states = members(self.states)
        inside = members(self.closed)
        if steps.begin not in states or not stays_within(steps, list(states), states):
            return False
        turned = turned_pairs(circuit, name, pairs, list(states))
        return all([pair in inside for pair in turned]) and is_closed(pairs, inside)

    def __bool__(self):
        return True

    def __eq__(self, other):
        return isinstance(other, Unread) and self.states == other.states and self.closed == other.closed


class Read:
    """A register is read: rows to a state, and more rows that show an unlike output where it is turned over."""

    def __init__(self, rows, more):
        self.rows = copied_rows(rows)
        self.more = copied_rows(more)

    def shows(self, circuit, name):
        """Tells whether this shows that a register of a circuit is read."""
        check_asked(circuit, name)
        need_rows(circuit, self.rows + self.more)
        state = state_behind(circuit, self.rows)
        at = register_names(circuit).index(name)
        turned = state[:at] + (1 - state[at],) + state[at + 1:]
        return tells_apart(circuit, circuit, (state, turned), self.more)

    def __bool__(self):
        return False

    def __eq__(self, other):
        return isinstance(other, Read) and self.rows == other.rows and self.more == other.more


def check_asked(circuit, name):
    """Raises what is wrong with a circuit and the name of a register."""
    need_circuit(circuit)
    if name not in register_names(circuit):
        raise NoPart(name)


def turned_pairs(circuit, name, pairs, states):
    """The list of the pairs of some states, and of them with the bit of a register turned over."""
    names = register_names(circuit)
    bit = 1 << (len(names) - 1 - names.index(name))
    return [pairs.first.states[state] + pairs.second.states[state ^ bit] for state in states]


def judge_unread(circuit, name):
    """The Unread or the Read of a register of a circuit."""
    check_asked(circuit, name)
    steps = steps_of(circuit, [])
    pairs = Pairs(circuit, circuit)
    reached_from = reach(steps, [steps.begin])
    states = list(reached_from)
    begins = turned_pairs(circuit, name, pairs, states)
    found, goal = seek(pairs, begins)
    if goal is None:
        return Unread(set_of(state_order(circuit), states), set_of(pairs.order, list(found)))
    state = states[begins.index(path_to(found, goal)[0])]
    return Read(rows_along(steps, path_to(reached_from, state)), rows_to_goal(pairs, found, goal))


def unread(circuit):
    """The list of the registers that are never read, each by itself, in order."""
    need_circuit(circuit)
    steps = steps_of(circuit, shown_outputs(circuit))
    classes = like_classes(steps)
    states = list(reach(steps, [steps.begin]))
    told = []
    for at, name in enumerate(register_names(circuit)):
        if all([classes[state] == classes[state ^ steps.weights[at]] for state in states]):
            told.append(name)
    return told


def stuck(circuit, name, bit):
    """The circuit with a register or gate stuck at a bit, for all that read it."""
    need_circuit(circuit)
    if not is_bit(bit):
        raise BadRow("not a bit")
    if name not in part_names(circuit):
        raise NoPart(name)
    registers = tuple([(told, start, put(net, name, bit)) for told, start, net in circuit.registers])
    gates = tuple([(told, kind, tuple([put(net, name, bit) for net in nets])) for told, kind, nets in circuit.gates])
    outputs = tuple([(told, put(net, name, bit)) for told, net in circuit.outputs])
    return Circuit(circuit.inputs, registers, gates, outputs)


def put(net, name, bit):
    """A net, or the bit in the place of a name."""
    return str(bit) if net == name else net


def part_names(circuit):
    """The list of the names of the registers, then of the gates."""
    return register_names(circuit) + [told[0] for told in circuit.gates]


def judge_stuck(circuit, name, bit):
    """The Alike or the Apart of a circuit and this one with a register or gate stuck at a bit."""
    return judge_alike(circuit, stuck(circuit, name, bit))


def all_tests(circuit):
    """The dict from pairs of a register or gate and a bit to the least number of rows that tell it, or None."""
    need_circuit(circuit)
    pairs = Pairs(circuit, circuit)
    told = {}
    for name in part_names(circuit):
        for bit in (0, 1):
            pairs.put_second(stuck(circuit, name, bit))
            found, goal = seek(pairs, [pairs.begin])
            # The row at the goal itself is one more than lead there.
            told[(name, bit)] = None if goal is None else len(path_to(found, goal))
    return told
