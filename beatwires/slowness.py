"""How many ticks instructions are held for at most, in the long run."""

from beatwires.pipes import check_program, need_pipe
from beatwires.piping import copied_program, is_standing, program_to


class Slowest:
    """A loop of instructions that is held for most ticks, and heights of standings, by which none is for more."""

    def __init__(self, ticks, program, loop, heights):
        self.ticks = ticks
        self.program = copied_program(program)
        self.loop = copied_program(loop)
        self.heights = {standing: heights[standing] for standing in heights}

    def shows(self, pipe):
        """Tells whether this shows how many ticks a pipe is held for at most."""
        need_pipe(pipe)
        check_program(pipe, self.program)
        check_program(pipe, self.loop)
        if not self.loop:
            return False
        _, begin = issued(pipe, pipe.start(), self.program)
        if issued(pipe, begin, self.loop) != (self.ticks, begin):
            return False
        return self.are_heights(pipe)

    def are_heights(self, pipe):
        """Tells whether no instruction leads to a standing that is too low, or that has no height."""
        if pipe.start() not in self.heights or not all([is_standing(pipe, standing) for standing in self.heights]):
            return False
        many = len(self.loop)
        for standing in self.heights:
            for instruction in pipe.instructions():
                held, _, behind = pipe.follow(standing, instruction)
                if behind not in self.heights:
                    return False
                if self.heights[behind] < self.heights[standing] + many * held - self.ticks:
                    return False
        return True

    def __eq__(self, other):
        if not isinstance(other, Slowest) or self.ticks != other.ticks or self.program != other.program:
            return False
        return self.loop == other.loop and self.heights == other.heights


def issued(pipe, standing, program):
    """For how many ticks a program is held from a standing on, and the standing behind it."""
    held = 0
    for instruction in program:
        ticks, _, standing = pipe.follow(standing, instruction)
        held += ticks
    return held, standing


class HeldSteps:
    """The steps between all standings of a pipe: from each one to each behind it, the one that is held longest."""

    def __init__(self, pipe):
        self.came_by = {pipe.start(): None}
        self.steps = []
        instructions = pipe.instructions()
        waiting = [pipe.start()]
        at = 0
        while at < len(waiting):
            standing = waiting[at]
            at += 1
            longest = {}
            for instruction in instructions:
                held, _, behind = pipe.follow(standing, instruction)
                if behind not in longest or held > longest[behind][0]:
                    longest[behind] = (held, instruction)
                if behind not in self.came_by:
                    self.came_by[behind] = (standing, instruction)
                    waiting.append(behind)
            for behind in longest:
                self.steps.append((standing, behind) + longest[behind])

    def lifted(self, ticks, many):
        """The heights of standings so that no loop is held for more than some ticks in so many instructions.

        If one is, the second thing is the list of its steps, otherwise it is empty.
        """
        heights = {standing: 0 for standing in self.came_by}
        last = {}
        lower = True
        while lower:
            lower = False
            for step in self.steps:
                height = heights[step[0]] + many * step[2] - ticks
                if height > heights[step[1]]:
                    heights[step[1]] = height
                    last[step[1]] = step
                    lower = True
            loop = loop_in(last)
            if loop:
                return heights, loop
        return heights, []


def loop_in(last):
    """The list of the steps of a loop, for a dict of the last step to each standing, empty if they form none."""
    seen = {}
    for begin in last:
        standing = begin
        while standing in last and standing not in seen:
            seen[standing] = begin
            standing = last[standing][0]
        if standing in last and seen[standing] == begin:
            return loop_through(last, standing)
    return []


def loop_through(last, standing):
    """The list of the steps of the loop that leads to a standing on it."""
    loop = [last[standing]]
    while loop[-1][0] != standing:
        loop.append(last[loop[-1][0]])
    return loop[::-1]


def slowest(pipe):
    """The Slowest of a pipe."""
    need_pipe(pipe)
    found = HeldSteps(pipe)
    # An instruction without a goal leads from the start to the start, and is not held.
    ticks, program, loop = 0, [], [pipe.instructions()[0]]
    heights, steps = found.lifted(ticks, len(loop))
    while steps:
        ticks = sum([step[2] for step in steps])
        program = program_to(found.came_by, steps[0][0])
        loop = [step[3] for step in steps]
        heights, steps = found.lifted(ticks, len(loop))
    return Slowest(ticks, program, loop, heights)
