"""Reads the constants and expressions of a line."""

from beatwires.designsteps import COMPARING, LEVELS, LOOSEST, SHIFTING, constant_of


def read_constant(line, depth, products=True):
    """Reads a constant within so many signs that hold others; returns it."""
    return tuple(read_sum(line, depth, products))


def read_sum(line, depth, products):
    """Reads products that are added and taken away; returns the list of their steps."""
    told = read_product(line, depth, products)
    while line.peek() in ("+", "-"):
        sign = line.peek()
        line.take(sign)
        told = told + read_product(line, depth, products) + [sign]
    return told


def read_product(line, depth, products):
    """Reads numbers, names and parentheses that are multiplied, if that is allowed here."""
    told = read_atom(line, depth, products)
    while products and line.peek() == "*":
        line.take("*")
        told = told + read_atom(line, depth, products) + ["*"]
    return told


def read_atom(line, depth, products=True):
    """Reads a number, a name or a constant in parentheses."""
    if line.peek() == "(":
        inner = line.enter("(", depth)
        told = read_sum(line, inner, products)
        line.take(")")
        return told
    if line.has_figures():
        return [line.figures()]
    return [line.word()]


def read_expression(line):
    """Reads an expression; returns the tuple of its steps."""
    steps = []
    read_pick(line, steps, 0)
    return tuple(steps)


def read_pick(line, steps, depth):
    """Reads an expression that is perhaps a choice."""
    read_signs(line, steps, depth, LOOSEST + 1)
    if line.peek() == "?":
        inner = line.enter("?", depth)
        read_pick(line, steps, inner)
        line.take(":")
        read_pick(line, steps, inner)
        steps.append(("?",))


def read_signs(line, steps, depth, level):
    """Reads expressions with signs between them that bind at least as tightly as this level."""
    read_near(line, steps, depth)
    compared = False
    sign = line.peek()
    while LEVELS.get(sign, LOOSEST) >= level:
        bound = LEVELS[sign]
        if bound == COMPARING and compared:
            line.refuse()
        compared = compared or bound == COMPARING
        line.take(sign)
        if bound == SHIFTING:
            steps.append((sign, tuple(read_atom(line, depth))))
        else:
            read_signs(line, steps, depth, bound + 1)
            steps.append((sign,))
        sign = line.peek()


def read_near(line, steps, depth):
    """Reads an expression with what binds most tightly: what denies it, and places in it."""
    if line.peek() == "~":
        inner = line.enter("~", depth)
        read_near(line, steps, inner)
        steps.append(("~",))
        return
    first = len(steps)
    read_single(line, steps, depth)
    while line.peek() == "[":
        inner = line.enter("[", depth)
        if len(steps) == first + 1 and steps[first][0] == "word":
            read_word_place(line, steps, inner)
        else:
            read_place(line, steps, inner)
        line.take("]")


def read_place(line, steps, depth):
    """Reads which bit or bits are asked for."""
    one = read_constant(line, depth, False)
    if line.peek() == "..":
        line.take("..")
        steps.append(("bits", one, read_constant(line, depth, False)))
    else:
        steps.append(("bit", one))


def read_word_place(line, steps, depth):
    """Reads which bits of a word are asked for, or which word if it is a memory, as only its module tells."""
    place = []
    read_pick(line, place, depth)
    constant = constant_of(place)
    if line.peek() == ".." and constant is not None:
        line.take("..")
        steps.append(("bits", constant, read_constant(line, depth, False)))
    else:
        word = steps.pop()[1]
        steps.append(("at", word, tuple(place)))


def read_single(line, steps, depth):
    """Reads a number, a word, an output, or what stands in parentheses or braces."""
    told = line.peek()
    if told == "(":
        inner = line.enter("(", depth)
        read_pick(line, steps, inner)
        line.take(")")
    elif told == "{":
        read_joined(line, steps, depth)
    elif told in ("all", "any", "odd", "wide"):
        read_asked(line, steps, depth)
    elif line.has_figures():
        number = line.figures()
        if line.peek() == "'":
            line.take("'")
            steps.append(("sized", number, tuple(read_atom(line, depth))))
        else:
            steps.append(("number", number))
    else:
        word = line.word()
        if line.peek() == ".":
            line.take(".")
            steps.append(("out", word, line.word()))
        else:
            steps.append(("word", word))


def read_joined(line, steps, depth):
    """Reads expressions in braces."""
    inner = line.enter("{", depth)
    read_pick(line, steps, inner)
    many = 1
    while line.peek() == ",":
        line.take(",")
        read_pick(line, steps, inner)
        many += 1
    line.take("}")
    steps.append(("{", many))


def read_asked(line, steps, depth):
    """Reads what is asked of all bits of an expression, or its other width."""
    asked = line.peek()
    line.take(asked)
    inner = line.enter("(", depth)
    read_pick(line, steps, inner)
    if asked == "wide":
        line.take(",")
        steps.append(("wide", read_constant(line, inner)))
    else:
        steps.append((asked,))
    line.take(")")
