"""Modules with numbers for their widths, as parts within parts: what their items tell, and on what they act."""

from beatwires.designsteps import constant_value
from beatwires.errors import BadDesign

MOST_WIDTH = 16
MOST_WORDS = 16
MOST_NUMBER = 65535
DEEPEST_PART = 8
ACTING = ("next", "reset", "write")


class Frame:
    """A module with numbers for its widths, at its place among parts.

    words has pairs of a kind and a width, memories triples of how many words, their width and their start.
    """

    def __init__(self, module, numbers, prefix):
        self.module = module[0]
        self.widths = {name: numbers[at] for at, name in enumerate(module[1])}
        self.lines = module[2]
        self.prefix = prefix
        self.words = {}
        self.starts_told = {}
        self.memories = {}
        self.parts = {}

    def refuse(self, word, why):
        """Tells what is wrong with the item of a word."""
        raise BadDesign(self.module, word, why)

    def number_told(self, word, constant, least, most):
        """The number that a constant of an item is, from the least to the most one."""
        told = constant_value(constant, self.widths)
        if told is None or not least <= told <= most:
            self.refuse(word, "number")
        return told

    def of_kind(self, kind):
        """The list of the words that items of a kind tell."""
        return [item[1] for item in self.lines if item[0] == kind]


def declare(frame, design, depth):
    """Notes what the items of a module tell, and those of its parts, each at its place."""
    for item in frame.lines:
        kind, word = item[0], item[1]
        if kind in ACTING:
            continue
        known = (frame.widths, frame.words, frame.memories, frame.parts)
        if any([word in told for told in known]):
            frame.refuse(word, "twice")
        if kind == "part":
            declare_part(frame, item, design, depth)
        elif kind == "memory":
            many = frame.number_told(word, item[2], 1, MOST_WORDS)
            width = frame.number_told(word, item[3], 1, MOST_WIDTH)
            frame.memories[word] = (many, width, frame.number_told(word, item[4], 0, MOST_NUMBER))
        else:
            frame.words[word] = (kind, frame.number_told(word, item[2], 1, MOST_WIDTH))
            if kind == "register":
                frame.starts_told[word] = frame.number_told(word, item[3], 0, MOST_NUMBER)


def declare_part(frame, item, design, depth):
    """Notes a part with all that is in it."""
    _, word, title, constants, inputs = item
    if title not in design:
        frame.refuse(word, "module")
    if depth == DEEPEST_PART:
        frame.refuse(word, "deep")
    module = design.module_of(title)
    if len(constants) != len(module[1]):
        frame.refuse(word, "widths")
    numbers = [frame.number_told(word, constant, 0, MOST_NUMBER) for constant in constants]
    part = Frame(module, numbers, frame.prefix + word + ".")
    frame.parts[word] = part
    declare(part, design, depth + 1)
    if sorted([name for name, _ in inputs]) != sorted(part.of_kind("input")):
        frame.refuse(word, "inputs")


def check_acting(frame):
    """Looks whether there is what the items of a module, and of its parts, act on."""
    nexts = {}
    for item in frame.lines:
        kind, word = item[0], item[1]
        if kind == "part":
            check_acting(frame.parts[word])
        if kind in ("next", "reset") and word not in frame.starts_told:
            frame.refuse(word, "register")
        if kind == "next" and word in nexts:
            frame.refuse(word, "twice")
        if kind == "next":
            nexts[word] = True
        if kind == "write" and word not in frame.memories:
            frame.refuse(word, "memory")
