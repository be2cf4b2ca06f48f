"""Whether the starts of some registers are forgotten."""

from beatwires.circuits import copied_rows, state_behind
from beatwires.evidencerows import need_rows, tells_apart
from beatwires.freestarts import check_asked
from beatwires.likestates import like_classes
from beatwires.longestways import falling_way, longest_ways
from beatwires.pairing import Pairs
from beatwires.searching import is_closed, reach, rows_along, rows_to_goal, seek, stays_within
from beatwires.statesets import members, set_of
from beatwires.stepping import bits_of_number
from beatwires.varying import is_varied, varied_pairs


class Forgets:
    """The start is forgotten after a number of ticks: sets of pairs by ticks, a closed one, and why not before."""

    def __init__(self, number, layers, closed, state, rows):
        self.number = number
        self.layers = list(layers)
        self.closed = closed
        self.state = state
        self.rows = copied_rows(rows)

    def shows(self, circuit, names):
        """Tells whether this shows that the start of some registers is forgotten after just so many ticks."""
        check_asked(circuit, names)
        if self.number != 0:
            need_rows(circuit, self.rows)
        pairs = Pairs(circuit, circuit)
        diagrams = self.layers + [self.closed]
        if len(self.layers) != self.number + 1 or any([told.order != pairs.order for told in diagrams]):
            return False
        return self.is_soon(pairs, circuit, names) and self.is_late(circuit, names)

    def is_soon(self, pairs, circuit, names):
        """Tells whether the sets show that the start is forgotten after so many ticks."""
        if not self.layers:
            return False
        inside = members(self.layers[0])
        if not all([pair in inside for pair in varied_pairs(pairs, circuit, names)]):
            return False
        for layer in self.layers[1:]:
            ahead = members(layer)
            if not stays_within(pairs, list(inside), ahead):
                return False
            inside = ahead
        within = members(self.closed)
        return all([pair in within for pair in inside]) and is_closed(pairs, within)

    def is_late(self, circuit, names):
        """Tells whether state and rows show that the start is not forgotten after fewer ticks."""
        if self.number == 0:
            return True
        if not is_varied(circuit, names, self.state) or len(self.rows) < self.number:
            return False
        return tells_apart(circuit, circuit, (circuit.starts(), self.state), self.rows)

    def __bool__(self):
        return True

    def __eq__(self, other):
        if not isinstance(other, Forgets) or self.number != other.number or self.layers != other.layers:
            return False
        return self.closed == other.closed and self.state == other.state and self.rows == other.rows


class Keeps:
    """The start is never forgotten: a state, rows, a loop of rows, and more rows that show an unlike output."""

    def __init__(self, state, rows, loop, more):
        self.state = state
        self.rows = copied_rows(rows)
        self.loop = copied_rows(loop)
        self.more = copied_rows(more)

    def shows(self, circuit, names):
        """Tells whether this shows that the start of some registers is never forgotten."""
        check_asked(circuit, names)
        need_rows(circuit, self.rows + self.loop + self.more)
        if not is_varied(circuit, names, self.state) or not self.loop:
            return False
        begins = (circuit.starts(), self.state)
        states = tuple([state_behind(circuit, self.rows, state=begin) for begin in begins])
        if tuple([state_behind(circuit, self.loop, state=begin) for begin in states]) != states:
            return False
        return tells_apart(circuit, circuit, states, self.more)

    def __bool__(self):
        return False

    def __eq__(self, other):
        if not isinstance(other, Keeps) or self.state != other.state or self.rows != other.rows:
            return False
        return self.loop == other.loop and self.more == other.more


class UnlikePairs:
    """The ways among the pairs of states of a circuit and itself that some rows show to be unlike."""

    def __init__(self, pairs):
        self._pairs = pairs
        firsts = like_classes(pairs.first)
        self._classes = dict(firsts)
        self._classes.update({state: firsts[pairs.first.states[at]] for at, state in enumerate(pairs.second.states)})

    def is_unlike(self, pair):
        """Tells whether some rows show that the states of a pair are unlike."""
        one, two = self._pairs.halves(pair)
        return self._classes[one] != self._classes[two]

    def later(self, pair):
        """The list of the unlike pairs behind an unlike one, each once."""
        return [heir for heir in sorted(set(self._pairs.heirs(pair))) if self.is_unlike(heir)]


def judge_forgetting(circuit, names):
    """The Forgets or the Keeps of some registers of a circuit."""
    check_asked(circuit, names)
    pairs = Pairs(circuit, circuit)
    graph = UnlikePairs(pairs)
    begins = varied_pairs(pairs, circuit, names)
    heights, way, back = longest_ways(graph, [pair for pair in begins if graph.is_unlike(pair)])
    if way:
        return kept_by(pairs, way, back)
    number = max(list(heights.values()), default=0)
    layers = images(pairs, begins, number)
    closed = set_of(pairs.order, list(reach(pairs, layers[-1])))
    state, rows = circuit.starts(), []
    if number:
        way = falling_way(graph, heights, [pair for pair in begins if heights.get(pair, 0) == number][0])
        state, rows = told_by_way(pairs, way)
    return Forgets(number, [set_of(pairs.order, layer) for layer in layers], closed, state, rows)


def images(pairs, begins, number):
    """The lists of pairs that are reached from some by so many ticks, from 0 to a number."""
    layers = [begins]
    for _ in range(number):
        layers.append(sorted({heir for pair in layers[-1] for heir in pairs.heirs(pair)}))
    return layers


def told_by_way(pairs, way):
    """The second state of the first pair of a way, and rows along it, on to an unlike output."""
    found, goal = seek(pairs, [way[-1]])
    state = bits_of_number(way[0], pairs.second.weights)
    return state, rows_along(pairs, way) + rows_to_goal(pairs, found, goal)


def kept_by(pairs, way, back):
    """The Keeps of a way of unlike pairs, the last of which leads back to one of them."""
    at = way.index(back)
    found, goal = seek(pairs, [back])
    state = bits_of_number(way[0], pairs.second.weights)
    loop = rows_along(pairs, way[at:] + [back])
    return Keeps(state, rows_along(pairs, way[:at + 1]), loop, rows_to_goal(pairs, found, goal))
