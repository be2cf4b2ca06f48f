"""Pipes by chance, and what pipes do, worked out from the times at which all is issued and written."""

from beatwires.pipes import Pipe


def pipe(dice, registers=None, kinds=None, longest=4):
    """A pipe by chance."""
    told = {}
    for word in dice.sample(["add", "b", "cut", "zz"], kinds or dice.randint(1, 4)):
        length = dice.randint(1, longest)
        told[word] = (dice.randint(0, 2), length, dice.choice([None, *range(1, length)]))
    return Pipe(registers or dice.randint(1, 4), told, holds=dice.random() < 0.5, orders=dice.random() < 0.5)


class Watch:
    """The instructions that a pipe has issued, each with its tick."""

    def __init__(self, pipe):
        self.pipe = pipe
        self.tick = 0
        self.issued = []

    def present(self, goal):
        """The place of the one whose result is in a register now; -1 for what is there at first."""
        written = [(at + self.pipe.kinds[kind][1], at, place) for place, (kind, to, at) in enumerate(self.issued)
                   if to == goal and at + self.pipe.kinds[kind][1] <= self.tick]
        return max(written)[2] if written else -1

    def under_way(self, goal):
        """The places of those under way to a register."""
        return [place for place, (kind, to, at) in enumerate(self.issued)
                if to == goal and at + self.pipe.kinds[kind][1] > self.tick]

    def can_take(self, place):
        kind, _, at = self.issued[place]
        way = self.pipe.kinds[kind][2]
        return way is not None and self.tick >= at + way

    def last(self, goal):
        """The place of the last one issued with a goal."""
        return max([place for place, (_, to, _) in enumerate(self.issued) if to == goal], default=-1)

    def is_held(self, instruction):
        kind, goal, sources = instruction
        if self.pipe.holds:
            for source in sources:
                last = self.last(source)
                if last in self.under_way(source) and not self.can_take(last):
                    return True
        if self.pipe.orders and goal >= 0:
            own = self.tick + self.pipe.kinds[kind][1]
            return any(self.issued[place][2] + self.pipe.kinds[self.issued[place][0]][1] > own
                       for place in self.under_way(goal))
        return False

    def issue(self, instruction):
        """For how many ticks it is held, and the places it reads from."""
        held = 0
        while self.is_held(instruction):
            self.tick += 1
            held += 1
        reads = tuple(max([self.present(source)] + [place for place in self.under_way(source) if self.can_take(place)])
                      for source in instruction[2])
        self.issued.append((instruction[0], instruction[1], self.tick))
        self.tick += 1
        return held, reads

    def standing(self):
        """The standing now, as the document tells it."""
        told = []
        for goal in range(self.pipe.registers):
            present, ways = self.present(goal), self.under_way(goal)
            entries = [(place, (self.issued[place][0], self.tick - self.issued[place][2])) for place in ways]
            entries.append((present, ("", 0)))
            written = [place for place, (_, to, _) in enumerate(self.issued) if to == goal and place not in ways]
            if max(written, default=-1) != present:
                entries.append((max(written), ("", 1)))
            told.append(tuple(entry for _, entry in sorted(entries)))
        return tuple(told)

    def ends(self):
        """The places of those whose results are in the registers in the end."""
        self.tick += 10
        return [self.present(goal) for goal in range(self.pipe.registers)]


def watched(pipe, program):
    """What an instruction after the other is held, reads, and leaves."""
    watch = Watch(pipe)
    held, reads = [], []
    for instruction in program:
        ticks, places = watch.issue(instruction)
        held.append(ticks)
        reads.append(places)
    return held, reads, watch.ends()


def plain(pipe, program):
    """The places that the plain machine reads from, and those that stay."""
    def last(place, goal):
        return max([at for at in range(place) if program[at][1] == goal], default=-1)
    reads = [tuple(last(place, source) for source in program[place][2]) for place in range(len(program))]
    return reads, [last(len(program), goal) for goal in range(pipe.registers)]
