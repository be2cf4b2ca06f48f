"""Reads designs from texts."""

from beatwires.designlines import lines_of
from beatwires.designreading import read_constant, read_expression
from beatwires.designs import Design
from beatwires.designsteps import ONE
from beatwires.errors import BadText


def read_design(text):
    """The Design that a text tells."""
    if not isinstance(text, str):
        raise BadText(0, 0)
    lines = lines_of(text)
    modules = []
    titles = []
    at = 0
    while at < len(lines):
        title, widths = read_head(lines[at], titles)
        many = lines_ahead_of_end(lines, at + 1)
        items = [read_item(line) for line in lines[at + 1:at + 1 + many]]
        at += many + 2
        if at > len(lines):
            break
        read_end(lines[at - 1])
        modules.append((title, widths, tuple(items)))
        titles.append(title)
    if not modules or at > len(lines):
        raise BadText(text.count("\n") + 2, 1)
    return Design(modules)


def lines_ahead_of_end(lines, at):
    """How many lines from a place on come ahead of one that begins with end."""
    many = 0
    while at + many < len(lines) and lines[at + many].peek() != "end":
        many += 1
    return many


def read_head(line, titles):
    """Reads the line that a module begins with; returns its title and the names of its widths."""
    line.take("module")
    title = line.new_word(titles)
    widths = []
    if line.peek() == "(":
        line.take("(")
        widths.append(line.word())
        while line.peek() == ",":
            line.take(",")
            widths.append(line.new_word(widths))
        line.take(")")
    line.finish()
    return title, tuple(widths)


def read_end(line):
    """Reads the line that a module ends with."""
    line.take("end")
    line.finish()


def read_item(line):
    """Reads the line of an item; returns the item."""
    kind = line.peek()
    if kind not in READERS:
        line.refuse()
    line.take(kind)
    reader = READERS[kind]
    item = (kind,) + reader(line)
    line.finish()
    return item


def read_width(line):
    """Reads how many bits a word has; one if nothing is told."""
    if line.peek() != "[":
        return ONE
    return read_bracket(line)


def read_bracket(line):
    """Reads a constant in brackets."""
    line.take("[")
    constant = read_constant(line, 0)
    line.take("]")
    return constant


def read_plain(line):
    """Reads a word and its width."""
    return line.word(), read_width(line)


def read_equal(line):
    """Reads the expression behind the sign that tells it."""
    line.take("=")
    return read_expression(line)


def read_told(line):
    """Reads a word that is told by an expression."""
    return line.word(), read_width(line), read_equal(line)


def read_start(line):
    """Reads the constant that is a start."""
    line.take("=")
    return read_constant(line, 0)


def read_held(line):
    """Reads a word that has a start."""
    return line.word(), read_width(line), read_start(line)


def read_when(line):
    """Reads when something comes to be; None if always."""
    if line.peek() != "when":
        return None
    line.take("when")
    return read_expression(line)


def read_next(line):
    """Reads what a word becomes."""
    return line.word(), read_equal(line), read_when(line)


def read_reset(line):
    """Reads when a word becomes its start."""
    word = line.word()
    line.take("when")
    return word, read_expression(line)


def read_memory(line):
    """Reads words that are told by numbers."""
    return line.word(), read_bracket(line), read_width(line), read_start(line)


def read_write(line):
    """Reads what a word of a memory becomes."""
    word = line.word()
    line.take("[")
    place = read_expression(line)
    line.take("]")
    return word, place, read_equal(line), read_when(line)


def read_part(line):
    """Reads a part, the constants for its widths, and what its inputs get."""
    word = line.word()
    line.take("=")
    title = line.word()
    return word, title, read_numbers(line), read_inputs(line)


def read_numbers(line):
    """Reads the constants for the widths of a part."""
    if line.peek() != "(":
        return ()
    line.take("(")
    told = [read_constant(line, 0)]
    while line.peek() == ",":
        line.take(",")
        told.append(read_constant(line, 0))
    line.take(")")
    return tuple(told)


def read_inputs(line):
    """Reads the pairs of an input of a part and what it gets."""
    if line.peek() != ":":
        return ()
    line.take(":")
    told = [(line.word(), read_equal(line))]
    while line.peek() == ",":
        line.take(",")
        told.append((line.word(), read_equal(line)))
    return tuple(told)


READERS = {
    "input": read_plain,
    "output": read_told,
    "wire": read_told,
    "register": read_held,
    "next": read_next,
    "reset": read_reset,
    "memory": read_memory,
    "write": read_write,
    "part": read_part,
}
