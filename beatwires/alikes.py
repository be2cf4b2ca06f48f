"""Whether two circuits always tell the same."""

from beatwires.circuits import copied_rows
from beatwires.evidencerows import need_circuit, need_rows, tells_apart
from beatwires.pairing import Pairs, check_ports
from beatwires.searching import is_closed, rows_to_goal, seek
from beatwires.statesets import members, set_of


class Alike:
    """Two circuits tell the same: a set of pairs of states that no row leads out of, nor shows an unlike output in."""

    def __init__(self, closed):
        self.closed = closed

    def shows(self, one, other):
        """Tells whether this shows that two circuits are alike."""
        check_both(one, other)
        pairs = Pairs(one, other)
        if self.closed.order != pairs.order:
            return False
        inside = members(self.closed)
        return pairs.begin in inside and is_closed(pairs, inside)

    def __bool__(self):
        return True

    def __eq__(self, other):
        return isinstance(other, Alike) and self.closed == other.closed


class Apart:
    """Two circuits do not tell the same: rows at the last one of which an output is unlike."""

    def __init__(self, rows):
        self.rows = copied_rows(rows)

    def shows(self, one, other):
        """Tells whether this shows that two circuits are apart."""
        check_both(one, other)
        need_rows(one, self.rows)
        return tells_apart(one, other, (one.starts(), other.starts()), self.rows)

    def __bool__(self):
        return False

    def __eq__(self, other):
        return isinstance(other, Apart) and self.rows == other.rows


def check_both(one, other):
    """Raises what is wrong with two circuits that are asked about together."""
    need_circuit(one)
    need_circuit(other)
    check_ports(one, other)


def judge_alike(one, other):
    """The Alike or the Apart of two circuits."""
    check_both(one, other)
    pairs = Pairs(one, other)
    found, goal = seek(pairs, [pairs.begin])
    if goal is not None:
        return Apart(rows_to_goal(pairs, found, goal))
    return Alike(set_of(pairs.order, list(found)))
