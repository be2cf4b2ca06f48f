"""Which registers may start anyhow."""

from beatwires.circuits import copied_rows
from beatwires.evidencerows import need_circuit, need_registers, need_rows, register_names, tells_apart
from beatwires.layers import steps_of
from beatwires.likestates import like_classes
from beatwires.pairing import Pairs, shown_outputs
from beatwires.searching import is_closed, path_to, rows_to_goal, seek
from beatwires.statesets import members, set_of
from beatwires.stepping import bits_of_number
from beatwires.varying import is_varied, varied_pairs


class Free:
    """Some registers may start anyhow: a closed set of pairs of states, with the starts and each such state."""

    def __init__(self, closed):
        self.closed = closed

    def shows(self, circuit, names):
        """Tells whether this shows that some registers of a circuit may start anyhow."""
        check_asked(circuit, names)
        pairs = Pairs(circuit, circuit)
        if self.closed.order != pairs.order:
            return False
        inside = members(self.closed)
        return all([pair in inside for pair in varied_pairs(pairs, circuit, names)]) and is_closed(pairs, inside)

    def __bool__(self):
        return True

    def __eq__(self, other):
        return isinstance(other, Free) and self.closed == other.closed


class Bound:
    """Some registers may not start anyhow: such a state, and rows that show an unlike output from it."""

    def __init__(self, state, rows):
        self.state = state
        self.rows = copied_rows(rows)

    def shows(self, circuit, names):
        """Tells whether this shows that some registers of a circuit may not start anyhow."""
        check_asked(circuit, names)
        need_rows(circuit, self.rows)
        if not is_varied(circuit, names, self.state):
            return False
        return tells_apart(circuit, circuit, (circuit.starts(), self.state), self.rows)

    def __bool__(self):
        return False

    def __eq__(self, other):
        return isinstance(other, Bound) and self.state == other.state and self.rows == other.rows


def check_asked(circuit, names):
    """Raises what is wrong with a circuit and the names of some registers."""
    need_circuit(circuit)
    need_registers(circuit, names)


def judge_free(circuit, names):
    """The Free or the Bound of some registers of a circuit."""
    check_asked(circuit, names)
    pairs = Pairs(circuit, circuit)
    found, goal = seek(pairs, varied_pairs(pairs, circuit, names))
    if goal is None:
        return Free(set_of(pairs.order, list(found)))
    varied = bits_of_number(path_to(found, goal)[0], pairs.second.weights)
    return Bound(varied, rows_to_goal(pairs, found, goal))


def free_places(circuit):
    """The list of the greatest tuples of places of registers that may start anyhow, larger ones first."""
    steps = steps_of(circuit, shown_outputs(circuit))
    classes = like_classes(steps)
    free = {}
    for turned in range(steps.total):
        ones = [weight for weight in steps.weights if turned & weight]
        like = classes[steps.begin ^ turned] == classes[steps.begin]
        free[turned] = like and all([free[turned ^ weight] for weight in ones])
    found = []
    for turned in range(steps.total):
        more = [turned | weight for weight in steps.weights if not turned & weight]
        if free[turned] and not any([free[wider] for wider in more]):
            found.append(tuple([at for at, weight in enumerate(steps.weights) if turned & weight]))
    return sorted(found, key=lambda places: (-len(places), places))


def free_sets(circuit):
    """The list of the greatest sets of registers that may start anyhow, larger ones first, then in order."""
    need_circuit(circuit)
    names = register_names(circuit)
    return [tuple([names[at] for at in places]) for places in free_places(circuit)]


def least_resets(circuit):
    """The first one of the least sets of registers such that all others may start anyhow."""
    need_circuit(circuit)
    names = register_names(circuit)
    found = free_places(circuit)
    kept = [places for places in found if len(places) == len(found[0])]
    left = [tuple([at for at in range(len(names)) if at not in places]) for places in kept]
    return tuple([names[at] for at in min(left)])
