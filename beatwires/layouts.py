"""Modules of designs with all their parts laid out: words under their names among all parts, and what tells them."""

from beatwires.bitnumbers import lowest_bits
from beatwires.chains import order_of
from beatwires.designframes import MOST_NUMBER, Frame, check_acting, declare
from beatwires.designwidths import program_of
from beatwires.errors import BadDesign, NoPart
from beatwires.names import is_number


class Held:
    """A register: its width and start, what it becomes and when, and when it becomes its start."""

    def __init__(self, width, start):
        self.width = width
        self.first = start
        self.becomes = None
        self.when = None
        self.resets = []


class Store:
    """A memory: its words, their width and start, and what is written, as triples of a place, a value and when."""

    def __init__(self, many, width, start):
        self.many_words = many
        self.width = width
        self.first = start
        self.writes = []


class Layout:
    """A module laid out; the dicts and lists are in the order of the items, a part's at its place.

    programs has what tells wires, outputs, and inputs of parts; ordered their names, each behind those that it reads.
    """

    def __init__(self):
        self.ins = []
        self.outs = []
        self.held = {}
        self.stores = {}
        self.programs = {}
        self.told_words = []
        self.ordered = []


def lay_out(design, title, numbers):
    """The Layout of a module of a design with numbers for its widths."""
    if title not in design:
        raise NoPart(title)
    module = design.module_of(title)
    if len(numbers) != len(module[1]):
        raise BadDesign(title, title, "widths")
    if not all([is_number(number) and 0 <= number <= MOST_NUMBER for number in numbers]):
        raise BadDesign(title, title, "number")
    frame = Frame(module, numbers, "")
    declare(frame, design, 0)
    check_acting(frame)
    layout = Layout()
    layout.ins = [(word, frame.words[word][1]) for word in frame.of_kind("input")]
    layout.outs = [(word, frame.words[word][1]) for word in frame.of_kind("output")]
    lay_held(layout, frame)
    lay_items(layout, frame)
    lay_order(layout)
    return layout


def lay_held(layout, frame):
    """Lays out the registers and memories of a module and of its parts."""
    for item in frame.lines:
        kind, word = item[0], item[1]
        if kind == "part":
            lay_held(layout, frame.parts[word])
        elif kind == "memory":
            many, width, start = frame.memories[word]
            layout.stores[frame.prefix + word] = Store(many, width, lowest_bits(start, width))
        elif kind == "register":
            width = frame.words[word][1]
            layout.held[frame.prefix + word] = Held(width, lowest_bits(frame.starts_told[word], width))


def lay_items(layout, frame):
    """Lays out the expressions of a module and of its parts."""
    for item in frame.lines:
        if item[0] in LAYERS:
            layer = LAYERS[item[0]]
            layer(layout, frame, item)
        if item[0] == "part":
            lay_items(layout, frame.parts[item[1]])


def lay_input(layout, frame, item):
    """Notes an input, which its part's module tells if it is one of a part."""
    if frame.prefix != "":
        layout.told_words.append((frame.prefix + item[1], frame.module, item[1]))


def lay_told(layout, frame, item):
    """Lays out a wire or an output."""
    word = item[1]
    name = frame.prefix + word
    layout.programs[name] = program_of(frame, word, item[3], frame.words[word][1])
    layout.told_words.append((name, frame.module, word))


def lay_when(frame, word, steps):
    """The program of when something comes to be; None for always."""
    return None if steps is None else program_of(frame, word, steps, 1)


def lay_next(layout, frame, item):
    """Lays out what a register becomes."""
    _, word, steps, when = item
    held = layout.held[frame.prefix + word]
    held.becomes = program_of(frame, word, steps, held.width)
    held.when = lay_when(frame, word, when)


def lay_reset(layout, frame, item):
    """Lays out when a register becomes its start."""
    _, word, steps = item
    held = layout.held[frame.prefix + word]
    held.resets.append(program_of(frame, word, steps, 1))


def lay_write(layout, frame, item):
    """Lays out what a word of a memory becomes."""
    _, word, place, steps, when = item
    store = layout.stores[frame.prefix + word]
    placed = program_of(frame, word, place)
    told = program_of(frame, word, steps, store.width)
    store.writes.append((placed, told, lay_when(frame, word, when)))


def lay_part(layout, frame, item):
    """Lays out what the inputs of a part get."""
    word = item[1]
    part = frame.parts[word]
    for name, steps in item[4]:
        layout.programs[part.prefix + name] = program_of(frame, word, steps, part.words[name][1])


def lay_order(layout):
    """Puts the words that programs tell in their order; none of them may be told by itself."""
    reads = {name: words_read(layout.programs[name]) for name in layout.programs}
    layout.ordered = order_of(reads)
    done = {name: True for name in layout.ordered}
    for name, module, word in layout.told_words:
        if name not in done and is_behind(reads, name):
            raise BadDesign(module, word, "loop")


def words_read(program):
    """The list of the names of the words that a program reads."""
    return [step[3] for step in program if step[0] == "read"]


def is_behind(reads, name):
    """Tells whether a name reads itself, in one or more steps."""
    seen = set()
    waiting = [name]
    while waiting:
        read = reads[waiting.pop()]
        for other in read:
            if other == name:
                return True
            if other in reads and other not in seen:
                seen.add(other)
                waiting.append(other)
    return False


LAYERS = {
    "input": lay_input,
    "output": lay_told,
    "wire": lay_told,
    "next": lay_next,
    "reset": lay_reset,
    "write": lay_write,
    "part": lay_part,
}
