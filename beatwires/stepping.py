"""The states behind all states of a circuit, for all rows at once."""

from beatwires.bitplanes import figure_numbers, formula_plane, gate_plane, numbers_across, variable_plane
from beatwires.circuitchecks import gates_in_order
from beatwires.formulachecks import names_of

# So many bits of rows and states are worked out side by side: more would need longer numbers, fewer more of them.
SIDE_BY_SIDE = 9


def net_formula(net):
    """The formula of a net."""
    return ("bit", int(net)) if net in ("0", "1") else ("name", net)


def gates_behind(circuit, names):
    """The list of the gates that some names lead back to, each one behind those that it reads."""
    wanted = {name: True for name in names}
    kept = []
    for gate in reversed(gates_in_order(circuit.gates)):
        if gate[0] in wanted:
            kept.append(gate)
            for net in gate[2]:
                wanted[net] = True
    return kept[::-1]


def row_of(inputs, number):
    """The row with a number; that of the first input is its uppermost bit."""
    return {name: (number >> (len(inputs) - 1 - at)) & 1 for at, name in enumerate(inputs)}


def number_of_bits(bits, weights):
    """The number of some bits with weights."""
    return sum([weights[at] for at, bit in enumerate(bits) if bit])


def bits_of_number(number, weights):
    """The tuple of the bits with weights that a number has."""
    return tuple([1 if number & weight else 0 for weight in weights])


def plain_weights(many):
    """The weights of so many bits of a number, the uppermost first."""
    return [1 << at for at in range(many - 1, -1, -1)]


class Steps:
    """What a circuit does from its states, which are told by numbers: the sums of the weights of their bits.

    Rows are told by numbers, too, for the inputs in an order of their own.
    """

    def __init__(self, circuit, inputs, asked, weights):
        self.weights = weights
        self.inputs = inputs
        self.row_count = 1 << len(inputs)
        self.total = 1 << len(weights)
        self.begin = number_of_bits(circuit.starts(), weights)
        self.states = [0]
        for weight in reversed(weights):
            self.states = self.states + [state + weight for state in self.states]
        self._places = {state: at for at, state in enumerate(self.states)}
        self._asked = asked
        self._names = [told[0] for told in circuit.registers]
        self._goals = [net_formula(told[2]) for told in circuit.registers]
        self._gates = gates_behind(circuit, [name for formula in asked + self._goals for name in names_of(formula)])
        self._loose = min(len(weights), max(0, SIDE_BY_SIDE - len(inputs)))
        self._bits = len(inputs) + self._loose
        self._fixed = {"0": 0, "1": (1 << (1 << self._bits)) - 1}
        for at, name in enumerate(self._names[len(weights) - self._loose:] + list(inputs)):
            self._fixed[name] = variable_plane(self._bits - 1 - at, self._bits)
        self._known = figure_numbers()
        self._heirs = {}
        self._shown = {}

    def heirs(self, state):
        """The list of the next states for the rows, by their numbers."""
        if state not in self._heirs:
            self.work_out(self._places[state] >> self._loose)
        return self._heirs[state]

    def shown(self, state):
        """The tuple of the planes over the rows of what is asked."""
        if state not in self._shown:
            self.work_out(self._places[state] >> self._loose)
        return self._shown[state]

    def row(self, number):
        """The row with a number."""
        return row_of(self.inputs, number)

    def planes(self, part):
        """The dict of the planes of all nets over the states of a part, and the rows."""
        full = self._fixed["1"]
        planes = dict(self._fixed)
        for at, name in enumerate(self._names[:len(self._names) - self._loose][::-1]):
            planes[name] = full if (part >> at) & 1 else 0
        for name, kind, nets in self._gates:
            planes[name] = gate_plane(kind, [planes[net] for net in nets], full)
        return planes

    def work_out(self, part):
        """Works out all about the states of a part: those that have the same first bits."""
        planes = self.planes(part)
        full = self._fixed["1"]
        goals = [formula_plane(formula, planes, full) for formula in self._goals]
        asked = [formula_plane(formula, planes, full) for formula in self._asked]
        places = numbers_across(goals, 1 << self._bits, self._known)
        row_full = (1 << self.row_count) - 1
        for at, state in enumerate(self.states[part << self._loose:(part + 1) << self._loose]):
            first = at * self.row_count
            self._heirs[state] = [self.states[place] for place in places[first:first + self.row_count]]
            self._shown[state] = tuple([(plane >> first) & row_full for plane in asked])
