"""Formulas of words read bit by bit, from the lowest one on."""

from beatwires.likestates import numbered
from beatwires.names import is_number
from beatwires.stacks import taken_off
from beatwires.termchecks import COMPARING, GREATEST_NUMBER, names_in


def nothing(taken):
    """What formulas have at a bit: all that is to be known stands in what they compare."""
    return []


def denied(taken):
    """The bits turned over."""
    return [1 - bit for bit in taken[0]]


def both(taken):
    """The bits that both have."""
    return [one & other for one, other in zip(taken[0], taken[1])]


def either(taken):
    """The bits that one of two has."""
    return [one | other for one, other in zip(taken[0], taken[1])]


def unlike(taken):
    """The bits that just one of two has."""
    return [one ^ other for one, other in zip(taken[0], taken[1])]


def added(part, taken, now):
    """The bits of a sum, and what is carried."""
    sums = [one + other + now for one, other in zip(taken[0], taken[1])]
    return [told & 1 for told in sums], [told >> 1 for told in sums]


def lessened(part, taken, now):
    """The bits of a difference, and what is lent."""
    sums = [one - other - now for one, other in zip(taken[0], taken[1])]
    return [told & 1 for told in sums], [-(told >> 1) for told in sums]


def times(part, taken, now):
    """The bits of so many times a number, and what is carried."""
    sums = [part[1] * bit + now for bit in taken[0]]
    return [told & 1 for told in sums], [told >> 1 for told in sums]


def moved_up(part, taken, now):
    """The bits that came so many bits before, and those that came since."""
    if part[1] == 0:
        return taken[0], [0 for _ in taken[0]]
    uppermost = part[1] - 1
    return [now & 1 for _ in taken[0]], [now >> 1 | bit << uppermost for bit in taken[0]]


def alike(part, taken, now):
    """Whether both were alike up to now."""
    return [], [now if one == other else 0 for one, other in zip(taken[0], taken[1])]


def less(part, taken, now):
    """Whether the one is less up to now."""
    return [], [now if one == other else other for one, other in zip(taken[0], taken[1])]


def below(part, taken, now):
    """Twice whether the one is less up to now, and whether it is if the bits read now are the highest."""
    same = 3 * (now >> 1)
    # A one that stands alone makes a number greater, but less where it counts negative.
    return [], [same if one == other else 2 * other + one for one, other in zip(taken[0], taken[1])]


PLAIN_WORKERS = {
    "~": denied,
    "&": both,
    "|": either,
    "^": unlike,
    "not": nothing,
    "and": nothing,
    "or": nothing,
}
STANDING_WORKERS = {
    "+": added,
    "-": lessened,
    "times": times,
    "up": moved_up,
    "equal": alike,
    "less": less,
    "below": below,
}


def is_counted(part):
    """Tells whether a part has an integer in standings."""
    return part[0] == "number" or part[0] in STANDING_WORKERS


def begin_of(part):
    """The integer of a part ahead of all bits."""
    if part[0] == "number":
        return part[1]
    return 1 if part[0] == "equal" else 0


def can_stand(part, thing):
    """Tells whether a thing is an integer that a part may have in a standing."""
    if not is_number(thing):
        return False
    if part[0] == "number":
        halves = [part[1] >> at for at in range(GREATEST_NUMBER.bit_length() + 1)]
        return thing in halves
    if part[0] == "times":
        return min(part[1], 0) <= thing <= max(part[1] - 1, 0)
    if part[0] == "up":
        return 0 <= thing < 1 << part[1]
    return 0 <= thing <= (3 if part[0] == "below" else 1)


def truth_of(kind, taken, now):
    """The truth of a formula of a kind for those of the formulas in it, and its integer if it compares."""
    if kind == "not":
        return not taken[0]
    if kind == "and":
        return all(taken)
    if kind == "or":
        return any(taken)
    return now & 1 == 1


class Reader:
    """A formula that reads a bit of each of its names, for all of these bits side by side.

    The bits of the names are told by a number, a way: the lowest one is that of the first name.
    """

    def __init__(self, parts):
        self.names = names_in(parts)
        self._parts = parts
        self._counted = [part for part, _ in parts if is_counted(part)]
        ways = list(range(1 << len(self.names)))
        self._bits = {name: [(way >> at) & 1 for way in ways] for at, name in enumerate(self.names)}
        self._nothing = [() for _ in ways]
        self._truths = []
        at = 0
        for part, many in parts:
            if part[0] in COMPARING:
                self._truths.append((part[0], 0, at))
            elif part[0] in ("not", "and", "or"):
                self._truths.append((part[0], many, 0))
            at += 1 if is_counted(part) else 0

    def first_standing(self):
        """The standing ahead of all bits."""
        return tuple([begin_of(part) for part in self._counted])

    def is_standing(self, thing):
        """Tells whether a thing is told as a standing."""
        if not isinstance(thing, tuple) or len(thing) != len(self._counted):
            return False
        return all([can_stand(part, number) for part, number in zip(self._counted, thing)])

    def standings_behind(self, standing):
        """The list of the standings behind a bit of each name, by the ways."""
        stack = []
        later = []
        for part, many in self._parts:
            taken = taken_off(stack, many)
            if part[0] == "name":
                stack.append(self._bits[part[1]])
            elif part[0] == "number":
                now = standing[len(later)]
                stack.append([now & 1 for _ in self._nothing])
                later.append([now >> 1 for _ in self._nothing])
            elif part[0] in PLAIN_WORKERS:
                plain_worker = PLAIN_WORKERS[part[0]]
                stack.append(plain_worker(taken))
            else:
                worker = STANDING_WORKERS[part[0]]
                bits, left = worker(part, taken, standing[len(later)])
                stack.append(bits)
                later.append(left)
        return list(zip(*later)) if later else list(self._nothing)

    def tells(self, standing):
        """Tells whether the formula holds at a standing."""
        stack = []
        for kind, many, at in self._truths:
            taken = taken_off(stack, many)
            stack.append(truth_of(kind, taken, standing[at] if kind in COMPARING else 0))
        return stack[0]


class Met:
    """The standings that a formula meets, by numbers in the order in which it does; that ahead of all bits is 0.

    If not all are asked, those behind the first one at which it does not hold are left out.
    """

    def __init__(self, reader, asks_all):
        self.standings = [reader.first_standing()]
        self.truths = [True]
        self.came_by = [None]
        self.followers = []
        self.failing = None
        numbers = {}
        while len(self.followers) < len(self.standings) and (asks_all or self.failing is None):
            at = len(self.followers)
            later = reader.standings_behind(self.standings[at])
            for way, standing in enumerate(later):
                if standing not in numbers:
                    numbers[standing] = len(self.standings)
                    self.put(standing, (at, way), reader.tells(standing))
            self.followers.append([numbers[standing] for standing in later])

    def put(self, standing, came_by, holds):
        """Puts in a standing that was not met before."""
        if not holds and self.failing is None:
            self.failing = len(self.standings)
        self.standings.append(standing)
        self.came_by.append(came_by)
        self.truths.append(holds)

    def ways_to(self, number):
        """The list of the ways that lead to a standing."""
        ways = []
        while number:
            number, way = self.came_by[number]
            ways.append(way)
        return ways[::-1]


class Merged:
    """Standings that are met, as one where no bits tell them apart: whether the formula holds, and those behind."""

    def __init__(self, met):
        classes = numbered(dict(enumerate(met.truths)))
        many = 0
        while len(set(list(classes.values()))) > many:
            many = len(set(list(classes.values())))
            later = {at: tuple([classes[heir] for heir in heirs]) for at, heirs in enumerate(met.followers)}
            classes = numbered({at: (classes[at], later[at]) for at in classes})
        self.first = classes[0]
        self.truths = [True] * many
        self.followers = [()] * many
        for at in classes:
            self.truths[classes[at]] = met.truths[at]
            self.followers[classes[at]] = [classes[heir] for heir in met.followers[at]]
