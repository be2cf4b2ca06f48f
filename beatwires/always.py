"""What always holds, which nets always have the same bit, and what always comes in time."""

from beatwires.bitplanes import first_place
from beatwires.circuits import copied_rows, state_behind
from beatwires.evidencerows import need_circuit, need_rows, register_names
from beatwires.formulachecks import check_named, formula_bit
from beatwires.layers import state_order, steps_of
from beatwires.longestways import falling_way, longest_ways
from beatwires.searching import is_closed, path_to, reach, rows_along, rows_to_goal, seek, stays_within
from beatwires.statesets import members, set_of
from beatwires.stepping import Steps, net_formula, plain_weights, read_inputs
from beatwires.waiting import Waits


class Holds:
    """A formula always holds: a set of states that no row leads out of, in each of which it holds for all rows."""

    def __init__(self, closed):
        self.closed = closed

    def shows(self, circuit, formula):
        """Tells whether this shows that a formula always holds in a circuit."""
        check_asked(circuit, formula)
        if self.closed.order != state_order(circuit):
            return False
        steps = Kept(circuit, formula)
        inside = members(self.closed)
        return steps.begin in inside and is_closed(steps, inside)

    def __bool__(self):
        return True

    def __eq__(self, other):
        return isinstance(other, Holds) and self.closed == other.closed


class Broken:
    """A formula does not always hold: rows at the last one of which it does not."""

    def __init__(self, rows):
        self.rows = copied_rows(rows)

    def shows(self, circuit, formula):
        """Tells whether this shows that a formula does not always hold in a circuit."""
        check_asked(circuit, formula)
        need_rows(circuit, self.rows)
        return bits_along(circuit, circuit.starts(), self.rows, formula)[-1:] == [0]

    def __bool__(self):
        return False

    def __eq__(self, other):
        return isinstance(other, Broken) and self.rows == other.rows


class Kept(Steps):
    """The Steps of a circuit that go on up to a state in which a formula does not hold for some row."""

    def __init__(self, circuit, formula):
        inputs = read_inputs(circuit, [formula])
        Steps.__init__(self, circuit, inputs, [formula], plain_weights(len(circuit.registers)))

    def broken(self, state):
        """The plane of the rows at which the formula does not hold."""
        return (1 << self.row_count) - 1 ^ self.shown(state)[0]

    def is_goal(self, state):
        """Tells whether the formula does not hold for some row."""
        return self.broken(state) != 0

    def goal_row(self, state):
        """The number of the first row at which the formula does not hold."""
        return first_place(self.broken(state))


def check_asked(circuit, formula):
    """Raises what is wrong with a circuit, and a formula of its names."""
    need_circuit(circuit)
    check_named(formula, circuit)


def bits_along(circuit, state, rows, formula):
    """The list of the bits of a formula at the ticks with some rows, from a state."""
    bits = []
    for row in rows:
        known = circuit.net_bits(state, row)
        bits.append(formula_bit(formula, known))
        state = tuple([known[net] for _, _, net in circuit.registers])
    return bits


def judge_always(circuit, formula):
    """The Holds or the Broken of a formula of names of a circuit."""
    check_asked(circuit, formula)
    steps = Kept(circuit, formula)
    found, goal = seek(steps, [steps.begin])
    if goal is not None:
        return Broken(rows_to_goal(steps, found, goal))
    return Holds(set_of(state_order(circuit), list(found)))


def twins(circuit):
    """The list of the classes of nets that always have the same bit, or always the other one, as pairs."""
    need_circuit(circuit)
    names = ["0"] + register_names(circuit) + [told[0] for told in circuit.gates]
    steps = steps_of(circuit, [net_formula(name) for name in names])
    bits = circuit.net_bits(circuit.starts(), steps.row(0))
    parts = steps.parts_of(list(reach(steps, [steps.begin])))
    groups = [names]
    for part in parts:
        planes = steps.planes(part)
        groups = [like for group in groups for like in like_nets(group, planes, bits, parts[part])]
    places = {name: at for at, name in enumerate(names)}
    ordered = sorted(groups, key=lambda group: places[group[0]])
    return [[(name, bits[name] != bits[group[0]]) for name in group] for group in ordered]


def like_nets(group, planes, bits, asked):
    """The lists of two or more nets of a group that are alike where a plane asks, turned over where a bit is 1."""
    told = {}
    for name in group:
        plane = planes[name] & asked
        told.setdefault(plane ^ asked if bits[name] else plane, []).append(name)
    return [like for like in list(told.values()) if len(like) > 1]


class Within:
    """What is due always comes within some ticks: the sets of states that wait, and rows for which it takes so many."""

    def __init__(self, number, rows, layers):
        self.number = number
        self.rows = copied_rows(rows)
        self.layers = list(layers)

    def shows(self, circuit, when, then):
        """Tells whether this shows that one formula follows another within just so many ticks."""
        check_both(circuit, when, then)
        if self.number != 0:
            need_rows(circuit, self.rows)
        order = state_order(circuit)
        if len(self.layers) != self.number + 2 or any([layer.order != order for layer in self.layers]):
            return False
        return self.is_soon(circuit, when, then) and self.is_late(circuit, when, then)

    def is_soon(self, circuit, when, then):
        """Tells whether the sets show that it never takes more ticks."""
        sets = [members(layer) for layer in self.layers]
        steps = steps_of(circuit, [when, then])
        waits = Waits(steps)
        if len(sets) < 2 or sets[-1] or steps.begin not in sets[0] or not stays_within(steps, list(sets[0]), sets[0]):
            return False
        if not all([heir in sets[1] for heir in waits.begins(list(sets[0]))]):
            return False
        for at in range(1, len(sets) - 1):
            ahead = sets[at + 1]
            if not all([all([heir in ahead for heir in waits.later(state)]) for state in sets[at]]):
                return False
        return True

    def is_late(self, circuit, when, then):
        """Tells whether the rows show that it may take so many ticks."""
        if self.number == 0:
            return True
        first = len(self.rows) - self.number
        if first < 0:
            return False
        state = state_behind(circuit, self.rows[:first])
        return is_wait(circuit, state, self.rows[first:], when, then)

    def __bool__(self):
        return True

    def __eq__(self, other):
        if not isinstance(other, Within) or self.number != other.number:
            return False
        return self.rows == other.rows and self.layers == other.layers


class Never:
    """What is due may never come: rows to where it is due, rows from there on, and a loop of rows."""

    def __init__(self, rows, wait, loop):
        self.rows = copied_rows(rows)
        self.wait = copied_rows(wait)
        self.loop = copied_rows(loop)

    def shows(self, circuit, when, then):
        """Tells whether this shows that one formula may never follow another."""
        check_both(circuit, when, then)
        need_rows(circuit, self.rows + self.wait + self.loop)
        state = state_behind(circuit, self.rows)
        back = state_behind(circuit, self.wait, state=state)
        if not self.loop or state_behind(circuit, self.loop, state=back) != back:
            return False
        return is_wait(circuit, state, self.wait + self.loop, when, then)

    def __bool__(self):
        return False

    def __eq__(self, other):
        if not isinstance(other, Never):
            return False
        return self.rows == other.rows and self.wait == other.wait and self.loop == other.loop


def check_both(circuit, when, then):
    """Raises what is wrong with a circuit and two formulas of its names."""
    check_asked(circuit, when)
    check_named(then, circuit)


def is_wait(circuit, state, rows, when, then):
    """Tells whether from a state on, one formula holds at the first tick of some rows, and another at none of them."""
    return bits_along(circuit, state, rows, when)[:1] == [1] and not any(bits_along(circuit, state, rows, then))


def judge_answer(circuit, when, then):
    """The Within or the Never of two formulas of names of a circuit."""
    check_both(circuit, when, then)
    steps = steps_of(circuit, [when, then])
    waits = Waits(steps)
    found = reach(steps, [steps.begin])
    begins = waits.begins(list(found))
    heights, way, back = longest_ways(waits, list(begins))
    if way:
        at = way.index(back)
        wait = waits.row_to_begin(begins, way[0]) + waits.rows_on(way[:at + 1])
        rows = rows_along(steps, path_to(found, begins[way[0]]))
        return Never(rows, wait, waits.rows_on(way[at:] + [back]))
    number = max([heights[state] for state in begins], default=0)
    rows = []
    if number:
        way = falling_way(waits, heights, [state for state in begins if heights[state] == number][0])
        rows = rows_along(steps, path_to(found, begins[way[0]])) + waits.row_to_begin(begins, way[0])
        rows = rows + waits.rows_on(way)
    layers = waits.by_ticks(list(found), list(begins))
    return Within(number, rows, [set_of(state_order(circuit), layer) for layer in layers])
