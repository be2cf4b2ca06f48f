"""At which widths formulas hold for all values, and for how many."""

from beatwires.names import is_number
from beatwires.termchecks import names_in
from beatwires.wideterms import are_values, need_parts, need_width, told_at
from beatwires.wideword import Merged, Met, Reader


class Always:
    """A formula holds at all widths: a list of standings that no bits lead out of, nor does it fail in."""

    def __init__(self, standings):
        self.standings = list(standings)

    def shows(self, formula):
        """Tells whether this shows that a formula holds for all values at all widths."""
        reader = Reader(need_parts(formula, True))
        if not all([reader.is_standing(standing) for standing in self.standings]):
            return False
        known = {standing: True for standing in self.standings}
        for standing in [reader.first_standing()] + self.standings:
            if not all([heir in known for heir in reader.standings_behind(standing)]):
                return False
        return all([reader.tells(standing) for standing in self.standings])

    def __bool__(self):
        return True

    def __eq__(self, other):
        return isinstance(other, Always) and self.standings == other.standings


class Fails:
    """A formula fails: the least width at which it does, and values for which it does there."""

    def __init__(self, width, given):
        self.width = width
        self.given = {name: given[name] for name in given}

    def shows(self, formula):
        """Tells whether this shows that a formula fails at this width, and at no lesser one."""
        parts = need_parts(formula, True)
        found = judge_widths(formula)
        if found or found.width != self.width or sorted(self.given) != names_in(parts):
            return False
        return are_values(names_in(parts), self.width, self.given) and not told_at(parts, self.width, self.given)

    def __bool__(self):
        return False

    def __eq__(self, other):
        return isinstance(other, Fails) and self.width == other.width and self.given == other.given


def judge_widths(formula):
    """The Always or the Fails of a formula."""
    reader = Reader(need_parts(formula, True))
    met = Met(reader, False)
    if met.failing is None:
        return Always(met.standings[1:])
    ways = met.ways_to(met.failing)
    given = {}
    for at, name in enumerate(reader.names):
        given[name] = sum([((way >> at) & 1) << place for place, way in enumerate(ways)])
    return Fails(len(ways), given)


class Widths:
    """Whether a formula holds for all values at the widths from 1 on: some truths, and others again and again."""

    def __init__(self, front, period):
        self.front = list(front)
        self.period = list(period)

    def __contains__(self, width):
        if not is_number(width) or width < 1:
            return False
        if width <= len(self.front):
            return self.front[width - 1]
        return self.period[(width - 1 - len(self.front)) % len(self.period)]

    def __eq__(self, other):
        return isinstance(other, Widths) and self.front == other.front and self.period == other.period


def widths_of(formula):
    """The Widths of a formula."""
    told = Merged(Met(Reader(need_parts(formula, True)), True))
    heirs = [sorted(set(later)) for later in told.followers]
    truths = []
    seen = {}
    layer = tuple(heirs[told.first])
    while layer not in seen:
        seen[layer] = len(truths)
        truths.append(all([told.truths[number] for number in layer]))
        layer = tuple(sorted({heir for number in layer for heir in heirs[number]}))
    return shortest_widths(truths[:seen[layer]], truths[seen[layer]:])


def shortest_widths(front, period):
    """The Widths with the shortest lists that tell the same as two."""
    many = 1
    while len(period) % many or period != period[:many] * (len(period) // many):
        many += 1
    period = period[:many]
    while front and front[-1] == period[-1]:
        period = period[-1:] + period[:-1]
        front = front[:-1]
    return Widths(front, period)


def count_at(formula, width):
    """For how many values of its names a formula holds at a width."""
    parts = need_parts(formula, True)
    need_width(width)
    told = Merged(Met(Reader(parts), True))
    counts = [1 if truth else 0 for truth in told.truths]
    for _ in range(width):
        counts = [sum([counts[heir] for heir in later]) for later in told.followers]
    return counts[told.first]
