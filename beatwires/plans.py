"""Plans of gates with delays, and wires with registers that may be moved over the gates."""

from beatwires.chains import order_of
from beatwires.names import is_number, is_word
from beatwires.planerrors import BadPlan

OUTSIDE = "out"
MOST_WORDS = 12
MOST_WIRES = 40
GREATEST_DELAY = 1000
MOST_REGISTERS = 20


class Plan:
    """Gates with delays, the outside among them, and wires between them with numbers of registers."""

    def __init__(self, delays, wires):
        if not are_delays(delays):
            raise BadPlan("no dict of gates and delays")
        told = {gate: delays[gate] for gate in delays}
        told[OUTSIDE] = 0
        if not are_wires(wires, told):
            raise BadPlan("no list of wires between the gates")
        self.delays = {gate: told[gate] for gate in sorted(told)}
        self.wires = tuple(wires)
        if self.beat({}) is None:
            raise BadPlan("a ring of wires without registers")

    def registers(self, moves):
        """The list of the numbers of registers that the wires have behind some moves."""
        return [many + moves.get(to, 0) - moves.get(begin, 0) for begin, to, many in self.wires]

    def beat(self, moves):
        """The greatest sum of the delays on a path without registers behind some moves, None if they can't be."""
        told = self.registers(moves)
        if told and min(told) < 0:
            return None
        behind = {gate: [] for gate in self.delays}
        for at, (begin, to, _) in enumerate(self.wires):
            # The outside takes no time, so that a path is as long without it.
            if told[at] == 0 and begin != OUTSIDE and to != OUTSIDE:
                behind[to].append(begin)
        ordered = order_of(behind)
        if len(ordered) < len(behind):
            return None
        sums = {}
        for gate in ordered:
            sums[gate] = self.delays[gate] + max([sums[begin] for begin in behind[gate]], default=0)
        return max(list(sums.values()))

    def __eq__(self, other):
        return isinstance(other, Plan) and self.delays == other.delays and self.wires == other.wires


def are_delays(thing):
    """Tells whether a thing is a dict of gates and their delays."""
    if not isinstance(thing, dict) or not 1 <= len(thing) <= MOST_WORDS:
        return False
    return all([is_word(gate) and is_delay(gate, thing[gate]) for gate in thing])


def is_delay(gate, thing):
    """Tells whether a thing is a delay that a gate may have."""
    return is_number(thing) and 0 <= thing <= (0 if gate == OUTSIDE else GREATEST_DELAY)


def are_wires(thing, gates):
    """Tells whether a thing is a list or tuple of wires between some gates."""
    if not isinstance(thing, (list, tuple)) or len(thing) > MOST_WIRES:
        return False
    return all([is_wire(wire, gates) for wire in thing])


def is_wire(thing, gates):
    """Tells whether a thing is a triple of two gates and a number of registers."""
    if not isinstance(thing, tuple) or len(thing) != 3:
        return False
    if not all([isinstance(gate, str) and gate in gates for gate in thing[:2]]):
        return False
    return is_number(thing[2]) and 0 <= thing[2] <= MOST_REGISTERS
