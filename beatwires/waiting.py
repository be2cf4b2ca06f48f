"""Ways on which something that was to come does not come."""


class Waits:
    """The states of Steps that ask whether something is due, and whether it comes."""

    def __init__(self, steps):
        self.steps = steps
        self._full = (1 << steps.row_count) - 1
        self._later = {}

    def missed(self, state):
        """The plane of the rows at which it does not come."""
        return self._full ^ self.steps.shown(state)[1]

    def due(self, state):
        """The plane of the rows at which it is due, and does not come."""
        return self.steps.shown(state)[0] & self.missed(state)

    def later(self, state):
        """The list of the states behind one where it does not come, each once."""
        if state not in self._later:
            self._later[state] = self.led_by(state, self.missed(state))
        return self._later[state]

    def led_by(self, state, plane):
        """The list of the states to which the rows of a plane lead, each once."""
        if not plane:
            return []
        return sorted(set(self.steps.moves_from(state).where(plane)))

    def begins(self, states):
        """The dict from the states to which ticks lead at which it is due and does not come to where they do."""
        found = {}
        for state in states:
            for heir in self.led_by(state, self.due(state)):
                if heir not in found:
                    found[heir] = state
        return found

    def row_to_begin(self, begins, heir):
        """The list of the one row by which a dict by begins leads to one of its states."""
        state = begins[heir]
        return [self.row_by(state, self.due(state), heir)]

    def by_ticks(self, states, begins):
        """The lists of some states, of those that the wait begins with, and of those at each tick more, up to none."""
        told = [states]
        layer = begins
        while layer:
            told.append(layer)
            layer = sorted({heir for state in layer for heir in self.later(state)})
        return told + [[]]

    def rows_on(self, way):
        """The list of rows along a way on which it does not come."""
        return [self.row_by(way[at], self.missed(way[at]), way[at + 1]) for at in range(len(way) - 1)]

    def row_by(self, state, plane, heir):
        """The first row of a plane from a state to another one."""
        return self.steps.row(self.steps.moves_from(state).row_to(heir, plane))
