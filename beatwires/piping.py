"""Whether pipes are right for all programs."""

from beatwires.names import is_number
from beatwires.pipes import Pipe, check_program, need_pipe, plain_reads, played
from beatwires.pipesteps import GONE, PRESENT, WRITTEN
from beatwires.planerrors import BadPipe

MOST_CHOICES = 40


class Right:
    """A pipe is right for all programs: a list of standings that no instruction leads out of, nor goes wrong in."""

    def __init__(self, standings):
        self.standings = list(standings)

    def shows(self, pipe):
        """Tells whether this shows that a pipe is right for all programs."""
        need_pipe(pipe)
        if not all([is_standing(pipe, standing) for standing in self.standings]):
            return False
        known = {standing: True for standing in self.standings}
        if pipe.start() not in known:
            return False
        return all([goes_on_right(pipe, standing, known) for standing in self.standings])

    def __bool__(self):
        return True

    def __eq__(self, other):
        return isinstance(other, Right) and self.standings == other.standings


class Wrong:
    """A pipe is not right for all programs: one for which it is not, none of them shorter."""

    def __init__(self, program):
        self.program = copied_program(program)

    def shows(self, pipe):
        """Tells whether this shows that a pipe is not right for all programs, by one as short as can be."""
        need_pipe(pipe)
        if is_right(pipe, self.program):
            return False
        return len(judge_pipe(pipe).program) == len(self.program)

    def __bool__(self):
        return False

    def __eq__(self, other):
        return isinstance(other, Wrong) and self.program == other.program


class Chosen:
    """The place of a pipe that is right for all programs, and programs for which those of a lesser price are not."""

    def __init__(self, place, against):
        self.place = place
        self.against = {at: copied_program(against[at]) for at in sorted(against)}

    def shows(self, choices):
        """Tells whether this shows that a pair of a price and a pipe is right, and none of a lesser price is."""
        check_choices(choices)
        for at in self.against:
            if 0 <= at < len(choices):
                check_program(choices[at][1], self.against[at])
        if not 0 <= self.place < len(choices) or sorted(self.against) != cheaper_places(choices, self.place):
            return False
        if any([is_right(choices[at][1], self.against[at]) for at in self.against]):
            return False
        return bool(judge_pipe(choices[self.place][1]))

    def __eq__(self, other):
        return isinstance(other, Chosen) and self.place == other.place and self.against == other.against


def copied_program(program):
    """A program as a new list; what is no list or tuple stays, and is told when it is looked at."""
    return list(program) if isinstance(program, (list, tuple)) else program


def check_choices(choices):
    """Raises BadPipe if a thing is no list or tuple of pairs of a price and a pipe, or has too many of them."""
    if not isinstance(choices, (list, tuple)) or len(choices) > MOST_CHOICES:
        raise BadPipe(None)
    if not all([is_choice(thing) for thing in choices]):
        raise BadPipe(None)


def is_choice(thing):
    """Tells whether a thing is a pair of a price, an integer, and a pipe."""
    if not isinstance(thing, tuple) or len(thing) != 2:
        return False
    return is_number(thing[0]) and isinstance(thing[1], Pipe)


def cheaper_places(choices, place):
    """The ascending list of the places of the pairs that have a lesser price than the one at a place."""
    return [at for at, choice in enumerate(choices) if choice[0] < choices[place][0]]


def is_standing(pipe, thing):
    """Tells whether a thing is told as a standing of a pipe."""
    if not isinstance(thing, tuple) or len(thing) != pipe.registers:
        return False
    return all([are_entries(pipe, told) for told in thing])


def are_entries(pipe, thing):
    """Tells whether a thing is a tuple of entries, with one that is present, and perhaps one behind it that is gone."""
    if not isinstance(thing, tuple) or not all([is_entry(pipe, entry) for entry in thing]):
        return False
    written = [entry[1] for entry in thing if entry[0] == WRITTEN]
    return written in ([PRESENT], [PRESENT, GONE])


def is_entry(pipe, thing):
    """Tells whether a thing is a pair that tells an instruction under way, or one whose result was written."""
    if not isinstance(thing, tuple) or len(thing) != 2 or not isinstance(thing[0], str) or not is_number(thing[1]):
        return False
    kind, age = thing
    return kind == WRITTEN or kind in pipe.kinds and 1 <= age < pipe.kinds[kind][1]


def goes_on_right(pipe, standing, known):
    """Tells whether a standing ends right, and each instruction reads as told from it, and leads to a known one."""
    if not pipe.ends_right(standing):
        return False
    for instruction in pipe.instructions():
        _, reads, behind = pipe.follow(standing, instruction)
        if not reads or behind not in known:
            return False
    return True


def judge_pipe(pipe):
    """The Right or the Wrong of a pipe."""
    need_pipe(pipe)
    instructions = pipe.instructions()
    found = {pipe.start(): None}
    standings = list(found)
    at = 0
    while at < len(standings):
        standing = standings[at]
        at += 1
        for instruction in instructions:
            _, reads, behind = pipe.follow(standing, instruction)
            if behind in found and reads:
                continue
            if not reads or not pipe.ends_right(behind):
                return Wrong(program_to(found, standing) + [instruction])
            found[behind] = (standing, instruction)
            standings.append(behind)
    return Right(standings)


def program_to(found, standing):
    """The program that leads to a standing, by a dict of the standings and instructions that led to each one first."""
    program = []
    while found[standing] is not None:
        standing, instruction = found[standing]
        program.append(instruction)
    return program[::-1]


def is_right(pipe, program):
    """Tells whether a pipe is right for a program."""
    need_pipe(pipe)
    told = played(pipe, program)
    return (told.reads, told.ends) == plain_reads(pipe, program)


def cheapest_right(choices):
    """The Chosen of some pairs of a price and a pipe, None if no pipe is right for all programs."""
    check_choices(choices)
    programs = {}
    for at in sorted(range(len(choices)), key=lambda place: choices[place][0]):
        found = judge_pipe(choices[at][1])
        if found:
            return Chosen(at, {place: programs[place] for place in cheaper_places(choices, at)})
        programs[at] = found.program
    return None
