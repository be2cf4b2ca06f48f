"""The least beat that a plan can have by moves of its registers."""

from beatwires.names import is_number
from beatwires.planerrors import BadPlan, NoPlacing
from beatwires.plans import OUTSIDE, Plan
from beatwires.placingways import limits_of, moves_within, paths_of


class Fastest:
    """The least beat of a plan, moves with it, and a walk of wires with pieces, or a gate, that allow no lesser one."""

    def __init__(self, beat, moves, walk, cuts):
        self.beat = beat
        self.moves = {gate: moves[gate] for gate in moves}
        self.walk = list(walk)
        self.cuts = list(cuts)

    def shows(self, plan):
        """Tells whether this shows what the least beat of a plan is."""
        need_plan(plan)
        if not all([gate in plan.delays for gate in self.moves]) or plan.beat(self.moves) != self.beat:
            return False
        if not self.walk:
            return self.beat == 0 or self.is_one_gate(plan)
        if not is_walk(plan, self.walk) or not are_apart(self.cuts, len(self.walk)):
            return False
        many = sum([plan.wires[place][2] for place in self.walk])
        return len(self.cuts) > many and all([self.is_long(plan, first, behind) for first, behind in self.cuts])

    def is_one_gate(self, plan):
        """Tells whether the cuts are one gate whose delay is the beat."""
        if len(self.cuts) != 1 or not isinstance(self.cuts[0], str):
            return False
        return plan.delays.get(self.cuts[0]) == self.beat

    def is_long(self, plan, first, behind):
        """Tells whether a piece of the walk is a path with delays of at least the beat."""
        gates = [plan.wires[place][0] for place in self.walk[first:behind]]
        last = plan.wires[self.walk[behind - 1]][1]
        if OUTSIDE in gates[1:]:
            return False
        return sum([plan.delays[gate] for gate in gates + [last]]) >= self.beat

    def __eq__(self, other):
        if not isinstance(other, Fastest) or self.beat != other.beat or self.moves != other.moves:
            return False
        return self.walk == other.walk and self.cuts == other.cuts


def need_plan(plan):
    """Raises BadPlan if a thing is no Plan."""
    if not isinstance(plan, Plan):
        raise BadPlan("no Plan")


def is_walk(plan, walk):
    """Tells whether some places are those of wires, each of which leads to the next one, the last one to the first."""
    if not all([is_number(place) and 0 <= place < len(plan.wires) for place in walk]):
        return False
    wires = [plan.wires[place] for place in walk]
    return all([wires[at - 1][1] == wire[0] for at, wire in enumerate(wires)])


def are_apart(cuts, many):
    """Tells whether cuts are pairs of places among so many, each piece of a wire or more, and behind the one before."""
    last = 0
    for cut in cuts:
        if not isinstance(cut, tuple) or len(cut) != 2 or not all([is_number(place) for place in cut]):
            return False
        if not last <= cut[0] < cut[1] <= many:
            return False
        last = cut[1]
    return True


def fastest(plan):
    """The Fastest of a plan."""
    need_plan(plan)
    paths = paths_of(plan)
    longest = max(list(plan.delays.values()))
    # A beat is too small for a gate, or for paths: so the least one is the delay of a gate, or of a path.
    delays = [paths[ends].delay for ends in paths]
    beats = sorted(set([longest] + [delay for delay in delays if delay > longest]))
    low, high = 0, len(beats) - 1
    while low < high:
        middle = (low + high) // 2
        _, ring = moves_within(plan.delays, limits_of(plan, paths, beats[middle]))
        if ring:
            low = middle + 1
        else:
            high = middle
    moves, _ = moves_within(plan.delays, limits_of(plan, paths, beats[low]))
    if low == 0:
        return Fastest(longest, stood(moves), [], [gate for gate in plan.delays if plan.delays[gate] == longest][:1])
    _, ring = moves_within(plan.delays, limits_of(plan, paths, beats[low - 1]))
    walk, cuts = walk_of(ring)
    return Fastest(beats[low], stood(moves), walk, cuts)


def stood(moves):
    """Moves that leave as many registers on all wires, with none of the outside."""
    return {gate: moves[gate] - moves[OUTSIDE] for gate in moves}


def walk_of(ring):
    """The list of the places of the wires along some limits, and that of the pieces that are to keep a register."""
    walk, cuts = [], []
    for limit in ring:
        if limit.keeps:
            cuts.append((len(walk), len(walk) + len(limit.path.places)))
        walk.extend(list(limit.path.places))
    return walk, cuts


def with_beat(plan, beat):
    """Moves of a plan by which it has at most a beat."""
    need_plan(plan)
    if not is_number(beat) or beat < max(list(plan.delays.values())):
        raise NoPlacing("no such moves")
    moves, ring = moves_within(plan.delays, limits_of(plan, paths_of(plan), beat))
    if ring:
        raise NoPlacing("no such moves")
    return stood(moves)
