"""Expressions with all of their widths, and with the words of parts under their names among all parts.

Each step of such a program has its kind, how many of the last values it takes, and how many bits its own value has.
"""

from beatwires.designframes import MOST_WIDTH
from beatwires.designsteps import constant_of

MOST_SHIFT = 16


class Work:
    """The program of an expression of an item, as far as it is known, and the widths of its last values."""

    def __init__(self, frame, word):
        self.frame = frame
        self.item_word = word
        self.program = []
        self.stack = []

    def refuse(self, why):
        """Tells what is wrong with the expression."""
        self.frame.refuse(self.item_word, why)

    def constant(self, told, least, most):
        """The number that a constant is, from the least to the most one."""
        return self.frame.number_told(self.item_word, told, least, most)

    def put(self, kind, taken, width, *more):
        """Adds a step that takes so many of the last values."""
        del self.stack[len(self.stack) - taken:]
        self.stack.append(width)
        self.program.append((kind, taken, width, *more))

    def same(self, first):
        """The width that all the last values from a place on must have."""
        widths = self.stack[first:]
        if min(widths) != max(widths):
            self.refuse("width")
        return widths[0]


def program_of(frame, word, steps, width=None):
    """The program of an expression of the item of a word, which must be of a width if one is told."""
    work = Work(frame, word)
    put_steps(work, steps)
    if width is not None and work.stack[0] != width:
        frame.refuse(word, "width")
    return tuple(work.program)


def put_steps(work, steps):
    """Adds the steps of an expression."""
    for step in steps:
        adder = ADDERS[step[0]]
        adder(work, step)


def put_word(work, step):
    """A word of the module itself."""
    frame = work.frame
    if step[1] not in frame.words:
        work.refuse("name")
    work.put("read", 0, frame.words[step[1]][1], frame.prefix + step[1])


def put_output(work, step):
    """An output of a part."""
    _, part, word = step
    parts = work.frame.parts
    if part not in parts or word not in parts[part].of_kind("output"):
        work.refuse("name")
    work.put("read", 0, parts[part].words[word][1], parts[part].prefix + word)


def put_number(work, step):
    """A number of one bit."""
    if step[1] > 1:
        work.refuse("width")
    work.put("number", 0, 1, step[1])


def put_sized(work, step):
    """A number with its width."""
    width = work.constant(step[2], 1, MOST_WIDTH)
    if step[1] >= 1 << width:
        work.refuse("number")
    work.put("number", 0, width, step[1])


def put_denied(work, step):
    """All bits turned over."""
    work.put("~", 1, work.stack[-1])


def put_between(work, step):
    """Two values of one width, put together to one of this width."""
    work.put(step[0], 2, work.same(-2))


def put_compared(work, step):
    """Two values of one width, compared."""
    work.same(-2)
    work.put(step[0], 2, 1)


def put_pick(work, step):
    """One of two values of one width."""
    if work.stack[-3] != 1:
        work.refuse("width")
    work.put("?", 3, work.same(-2))


def put_shifted(work, step):
    """A value with its bits at other places."""
    work.put(step[0], 1, work.stack[-1], work.constant(step[1], 0, MOST_SHIFT))


def put_joined(work, step):
    """Values behind each other."""
    widths = work.stack[len(work.stack) - step[1]:]
    if sum(widths) > MOST_WIDTH:
        work.refuse("width")
    work.put("{", step[1], sum(widths), tuple(widths))


def put_bit(work, step):
    """A bit of a value."""
    place = work.constant(step[1], 0, work.stack[-1] - 1)
    work.put("cut", 1, 1, place)


def put_bits(work, step):
    """Some bits of a value that stand together."""
    last = work.stack[-1] - 1
    high = work.constant(step[1], 0, last)
    low = work.constant(step[2], 0, last)
    if high < low:
        work.refuse("number")
    work.put("cut", 1, high - low + 1, low)


def put_asked(work, step):
    """What is asked of all bits of a value."""
    work.put(step[0], 1, 1, work.stack[-1])


def put_wide(work, step):
    """A value with another width."""
    work.put("wide", 1, work.constant(step[1], 1, MOST_WIDTH))


def put_place(work, step):
    """A word of a memory, or a bit of a word, as the module tells."""
    _, word, place = step
    memories = work.frame.memories
    if word in memories:
        put_steps(work, place)
        work.put("fetch", 1, memories[word][1], work.frame.prefix + word)
        return
    put_word(work, ("word", word))
    constant = constant_of(place)
    if constant is None:
        work.refuse("number")
    put_bit(work, ("bit", constant))


ADDERS = {
    "word": put_word,
    "out": put_output,
    "number": put_number,
    "sized": put_sized,
    "~": put_denied,
    "&": put_between,
    "|": put_between,
    "^": put_between,
    "+": put_between,
    "-": put_between,
    "==": put_compared,
    "<": put_compared,
    "?": put_pick,
    "<<": put_shifted,
    ">>": put_shifted,
    "{": put_joined,
    "bit": put_bit,
    "bits": put_bits,
    "all": put_asked,
    "any": put_asked,
    "odd": put_asked,
    "wide": put_wide,
    "at": put_place,
}
