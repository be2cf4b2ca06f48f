"""The states behind all states of a circuit, for all rows at once."""

from beatwires.bitplanes import figure_numbers, formula_plane, gate_plane, numbers_across, variable_plane
from beatwires.circuitchecks import gates_in_order
from beatwires.formulachecks import names_of
from beatwires.moves import MOST_WAYS, FewMoves, RowMoves, split_ways

# So many bits of rows and states are worked out side by side: more would need longer numbers, fewer more of them.
SIDE_BY_SIDE = 9


def net_formula(net):
    """The formula of a net."""
    return ("bit", int(net)) if net in ("0", "1") else ("name", net)


def gates_behind(circuit, formulas):
    """The gates that formulas and next states lead back to, in an order, and the dict of all names that are read."""
    goals = [net_formula(told[2]) for told in circuit.registers]
    wanted = {name: True for formula in formulas + goals for name in names_of(formula)}
    kept = []
    for gate in reversed(gates_in_order(circuit.gates)):
        if gate[0] in wanted:
            kept.append(gate)
            for net in gate[2]:
                wanted[net] = True
    return kept[::-1], wanted


def read_inputs(circuit, formulas):
    """The list of the inputs that formulas and next states lead back to."""
    _, read = gates_behind(circuit, formulas)
    return [name for name in circuit.inputs if name in read]


def number_of_bits(bits, weights):
    """The number of some bits with weights."""
    return sum([weights[at] for at, bit in enumerate(bits) if bit])


def bits_of_number(number, weights):
    """The tuple of the bits with weights that a number has."""
    return tuple([1 if number & weight else 0 for weight in weights])


def plain_weights(many):
    """The weights of so many bits of a number, the uppermost first."""
    return [1 << at for at in range(many - 1, -1, -1)]


class Steps:
    """What a circuit does from its states, which are told by numbers: the sums of the weights of their bits.

    Rows are told by numbers, too: the bits of some inputs, that of the first one uppermost. All others have 0 then,
    as nothing that is asked reads them.
    """

    def __init__(self, circuit, inputs, asked, weights):
        self.weights = weights
        self._inputs = inputs
        self.row_count = 1 << len(inputs)
        self.total = 1 << len(weights)
        self.begin = number_of_bits(circuit.starts(), weights)
        self.states = [0]
        for weight in reversed(weights):
            self.states = self.states + [state + weight for state in self.states]
        self._places = {state: at for at, state in enumerate(self.states)}
        self._asked = asked
        self._names = [told[0] for told in circuit.registers]
        self._goals = [net_formula(told[2]) for told in circuit.registers]
        self._gates, _ = gates_behind(circuit, asked)
        self._loose = min(len(weights), max(0, SIDE_BY_SIDE - len(inputs)))
        self._bits = len(inputs) + self._loose
        self._rest = {name: 0 for name in circuit.inputs}
        self._fixed = dict(self._rest)
        self._fixed.update({"0": 0, "1": (1 << (1 << self._bits)) - 1})
        for at, name in enumerate(self._names[len(weights) - self._loose:] + inputs):
            self._fixed[name] = variable_plane(self._bits - 1 - at, self._bits)
        self._known = {}
        self._moves = {}
        self._ways = {}
        self._shown = {}

    def moves_from(self, state):
        """The moves from a state."""
        if state not in self._moves:
            self.work_out(self._places[state] >> self._loose)
        return self._moves[state]

    def heirs(self, state):
        """The list of the next states, perhaps more than once."""
        return self.moves_from(state).heirs()

    def row_to(self, state, heir):
        """The number of the first row that leads from a state to another one."""
        return self.moves_from(state).row_to(heir, (1 << self.row_count) - 1)

    def shown(self, state):
        """The tuple of the planes over the rows of what is asked."""
        if state not in self._shown:
            self.work_out(self._places[state] >> self._loose)
        return self._shown[state]

    def row(self, number):
        """The row with a number."""
        row = dict(self._rest)
        for at, name in enumerate(reversed(self._inputs)):
            row[name] = (number >> at) & 1
        return row

    def parts_of(self, states):
        """The dict from the parts that have some states to planes that have 1 at all places of these."""
        found = {}
        full = (1 << self.row_count) - 1
        for state in states:
            place = self._places[state]
            part = place >> self._loose
            at = place - (part << self._loose)
            found[part] = found.get(part, 0) | full << at * self.row_count
        return found

    def planes(self, part):
        """The dict of the planes of all nets over the states of a part, and the rows."""
        full = self._fixed["1"]
        planes = dict(self._fixed)
        for at, name in enumerate(self._names[:len(self._names) - self._loose][::-1]):
            planes[name] = full if (part >> at) & 1 else 0
        for name, kind, nets in self._gates:
            planes[name] = gate_plane(kind, [planes[net] for net in nets], full)
        return planes

    def work_out(self, part):
        """Works out all about the states of a part: those that have the same first bits."""
        planes = self.planes(part)
        full = self._fixed["1"]
        goals = [formula_plane(formula, planes, full) for formula in self._goals]
        asked = [formula_plane(formula, planes, full) for formula in self._asked]
        row_full = (1 << self.row_count) - 1
        states = self.states[part << self._loose:(part + 1) << self._loose]
        for at, state in enumerate(states):
            first = at * self.row_count
            self._shown[state] = tuple([(plane >> first) & row_full for plane in asked])
        if self.row_count <= MOST_WAYS:
            told = self.listed(goals, 1 << self._bits)
            for at, state in enumerate(states):
                self._moves[state] = RowMoves(told[at * self.row_count:(at + 1) * self.row_count])
            return
        for at, state in enumerate(states):
            first = at * self.row_count
            self._moves[state] = self.found_moves([(plane >> first) & row_full for plane in goals], row_full)

    def listed(self, goals, many):
        """The list of the next states for so many places."""
        if not self._known:
            self._known = figure_numbers(self.states)
        return numbers_across(goals, many, self._known)

    def found_moves(self, goals, full):
        """The moves of a state for the planes of its next bits."""
        base = sum([weight for plane, weight in zip(goals, self.weights) if plane == full])
        # States that have the same rows for the same bits share their ways.
        key = tuple([0 if plane == full else plane for plane in goals])
        if key not in self._ways:
            self._ways[key] = split_ways(key, self.weights, full)
        if self._ways[key] is None:
            return RowMoves(self.listed(goals, self.row_count))
        return FewMoves(base, self._ways[key])
