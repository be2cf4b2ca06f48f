"""Paths of plans, and moves that leave none of them too long."""

from beatwires.plans import OUTSIDE


class Path:
    """Wires that lead from a gate to another one: how many registers they have, and how long the gates take."""

    def __init__(self, held, delay, places):
        self.held = held
        self.delay = delay
        self.places = places

    def comes_before(self, other):
        """Tells whether this has fewer registers than another path, or as many and longer delays."""
        return (self.held, -self.delay) < (other.held, -other.delay)


class Limit:
    """How much greater the move of a gate may be than that of another one: as much as wires between them have.

    If the wires are to keep a register, it is one less.
    """

    def __init__(self, begin, to, path, keeps):
        self.begin = begin
        self.to = to
        self.path = path
        self.keeps = keeps
        self.most = path.held - (1 if keeps else 0)


def put_path(found, ends, path):
    """Puts a path into a dict by its ends if none that comes before it is there."""
    if ends not in found or path.comes_before(found[ends]):
        found[ends] = path


def paths_of(plan):
    """The dict from pairs of gates to the first path between them, with the outside at its ends alone.

    Whatever the moves, the others between these gates have a register if this one has, or take no longer.
    """
    found = {}
    for place, (begin, to, many) in enumerate(plan.wires):
        put_path(found, (begin, to), Path(many, plan.delays[begin] + plan.delays[to], (place,)))
    for middle in plan.delays:
        if middle == OUTSIDE:
            continue
        before = [ends for ends in found if ends[1] == middle]
        behind = [ends for ends in found if ends[0] == middle]
        for first in before:
            for second in behind:
                one, other = found[first], found[second]
                delay = one.delay + other.delay - plan.delays[middle]
                put_path(found, (first[0], second[1]), Path(one.held + other.held, delay, one.places + other.places))
    return found


def limits_of(plan, paths, beat):
    """The list of the limits of all wires, and of all paths that are longer than a beat."""
    limits = []
    for place, (begin, to, many) in enumerate(plan.wires):
        limits.append(Limit(begin, to, Path(many, 0, (place,)), False))
    for ends in paths:
        if paths[ends].delay > beat:
            limits.append(Limit(ends[0], ends[1], paths[ends], True))
    return limits


def moves_within(gates, limits):
    """The dict of moves of gates that keep to some limits, and an empty list.

    If there are none, the list has limits that lead from gate to gate in a ring, and can't be kept to together.
    """
    moves = {gate: 0 for gate in gates}
    last = {}
    gate = None
    for _ in range(len(gates) + 1):
        gate = None
        for limit in limits:
            if moves[limit.begin] > moves[limit.to] + limit.most:
                moves[limit.begin] = moves[limit.to] + limit.most
                last[limit.begin] = limit
                gate = limit.begin
        if gate is None:
            return moves, []
    # What is still lowered now is so because of a ring; so many steps back surely lead onto it.
    for _ in range(len(gates)):
        gate = last[gate].to
    ring = [last[gate]]
    while ring[-1].to != gate:
        ring.append(last[ring[-1].to])
    return moves, ring
