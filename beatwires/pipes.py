"""Pipes of instructions, and what they and the plain machine make of programs."""

from beatwires.names import is_number, is_word
from beatwires.pipesteps import PRESENT, WRITTEN, aged, can_be_read, ended, is_held, put_under_way, read_entry
from beatwires.planerrors import BadPipe, BadProgram

MOST_REGISTERS = 4
MOST_KINDS = 4
MOST_SOURCES = 2
LONGEST = 4


class Pipe:
    """A pipe with registers, kinds of instructions, and what it does to keep to the order of programs."""

    def __init__(self, registers, kinds, *, holds=True, orders=True):
        if not is_number(registers) or not 1 <= registers <= MOST_REGISTERS:
            raise BadPipe("registers")
        if not are_kinds(kinds):
            raise BadPipe("kinds")
        if not isinstance(holds, bool):
            raise BadPipe("holds")
        if not isinstance(orders, bool):
            raise BadPipe("orders")
        self.registers = registers
        self.kinds = {kind: kinds[kind] for kind in sorted(kinds)}
        self.holds = holds
        self.orders = orders
        self._aged = {}

    def is_instruction(self, thing):
        """Tells whether a thing is an instruction of the pipe."""
        if not isinstance(thing, tuple) or len(thing) != 3:
            return False
        kind, goal, sources = thing
        if not isinstance(kind, str) or kind not in self.kinds or not isinstance(sources, tuple):
            return False
        if not is_number(goal) or not -1 <= goal < self.registers or len(sources) != self.kinds[kind][0]:
            return False
        return all([is_number(source) and 0 <= source < self.registers for source in sources])

    def instructions(self):
        """The ascending list of all instructions."""
        told = []
        for kind in self.kinds:
            lists = [()]
            for _ in range(self.kinds[kind][0]):
                lists = [sources + (source,) for sources in lists for source in range(self.registers)]
            told.extend([(kind, goal, sources) for goal in range(-1, self.registers) for sources in lists])
        return told

    def start(self):
        """The standing at the first tick."""
        return ((("", PRESENT),),) * self.registers

    def follow(self, standing, instruction):
        """For how many ticks an instruction is held, whether it reads as told, and the standing behind its issue."""
        held = 0
        while is_held(self, standing, instruction):
            standing = self.later(standing)
            held += 1
        reads = all([can_be_read(self.kinds, standing[source][-1]) for source in instruction[2]])
        return held, reads, self.later(put_under_way(standing, instruction, ()))

    def later(self, standing):
        """The standing one tick later."""
        for entries in standing:
            if entries not in self._aged:
                self._aged[entries] = aged(self.kinds, entries)
        return tuple([self._aged[entries] for entries in standing])

    def ends_right(self, standing):
        """Tells whether all registers have the result of the last one issued when all results are written."""
        return all([ended(self.kinds, entries)[-1] == (WRITTEN, PRESENT) for entries in standing])

    def __eq__(self, other):
        if not isinstance(other, Pipe) or self.registers != other.registers or self.kinds != other.kinds:
            return False
        return self.holds == other.holds and self.orders == other.orders


class Played:
    """For how many ticks instructions are held, from which ones they read, and whose results are there in the end."""

    def __init__(self, held, reads, ends):
        self.held = list(held)
        self.reads = list(reads)
        self.ends = list(ends)

    def __eq__(self, other):
        if not isinstance(other, Played):
            return False
        return self.held == other.held and self.reads == other.reads and self.ends == other.ends


def are_kinds(kinds):
    """Tells whether a thing is a dict of kinds of a pipe."""
    if not isinstance(kinds, dict) or not 1 <= len(kinds) <= MOST_KINDS:
        return False
    return all([is_word(kind) and is_kind(kinds[kind]) for kind in kinds])


def is_kind(thing):
    """Tells whether a thing is a triple of a number of sources, a length and a way."""
    if not isinstance(thing, tuple) or len(thing) != 3:
        return False
    sources, length, way = thing
    if not is_number(sources) or not 0 <= sources <= MOST_SOURCES:
        return False
    if not is_number(length) or not 1 <= length <= LONGEST:
        return False
    return way is None or is_number(way) and 1 <= way < length


def need_pipe(pipe):
    """Raises BadPipe if a thing is no Pipe."""
    if not isinstance(pipe, Pipe):
        raise BadPipe(None)


def check_program(pipe, program):
    """Raises BadProgram if a thing is no list or tuple of instructions of a pipe."""
    if not isinstance(program, (list, tuple)) or not all([pipe.is_instruction(thing) for thing in program]):
        raise BadProgram("no list of instructions of the pipe")


def played(pipe, program):
    """The Played of a pipe and a program."""
    check_program(pipe, program)
    standing = ((("", PRESENT, -1),),) * pipe.registers
    held, reads = [], []
    for place, instruction in enumerate(program):
        held.append(0)
        while is_held(pipe, standing, instruction):
            standing = pipe.later(standing)
            held[place] += 1
        reads.append(tuple([read_entry(pipe.kinds, standing[source])[2] for source in instruction[2]]))
        standing = pipe.later(put_under_way(standing, instruction, (place,)))
    ends = [read_entry(pipe.kinds, ended(pipe.kinds, entries))[2] for entries in standing]
    return Played(held, reads, ends)


def plain_reads(pipe, program):
    """The places from which instructions read, and whose results are there in the end, in the plain machine."""
    check_program(pipe, program)
    ends = [-1] * pipe.registers
    reads = []
    for place, instruction in enumerate(program):
        reads.append(tuple([ends[source] for source in instruction[2]]))
        if instruction[1] >= 0:
            ends[instruction[1]] = place
    return reads, ends
