"""Writes designs as texts."""

from beatwires.designsteps import (CONSTANT_ATOM, CONSTANT_LEVELS, COMPARING, DENYING, LEVELS, LOOSEST, ONE, SHIFTING,
                                   TIGHTEST)


def write_design(design):
    """The text of a design."""
    lines = []
    for title, widths, items in design.modules:
        lines.append(f"module {title}" + in_parentheses(widths))
        for item in items:
            lines.append("  " + item_text(item))
        lines.append("end")
    return "".join([line + "\n" for line in lines])


def in_parentheses(texts):
    """Some texts in parentheses; nothing if there are none."""
    return "(" + ", ".join(texts) + ")" if texts else ""


def item_text(item):
    """The line of an item."""
    writer = WRITERS[item[0]]
    return item[0] + " " + writer(item)


def plain_text(item):
    """A word and its width."""
    return item[1] + width_text(item[2])


def told_text(item):
    """A word that is told by an expression."""
    return plain_text(item) + " = " + expression_text(item[3])


def held_text(item):
    """A word that has a start."""
    return plain_text(item) + " = " + constant_text(item[3])


def next_text(item):
    """What a word becomes."""
    return item[1] + " = " + expression_text(item[2]) + when_text(item[3])


def reset_text(item):
    """When a word becomes its start."""
    return item[1] + when_text(item[2])


def memory_text(item):
    """Words that are told by numbers."""
    return item[1] + "[" + constant_text(item[2]) + "]" + width_text(item[3]) + " = " + constant_text(item[4])


def write_text(item):
    """What a word of a memory becomes."""
    return item[1] + "[" + expression_text(item[2]) + "] = " + expression_text(item[3]) + when_text(item[4])


def part_text(item):
    """A part, the constants for its widths, and what its inputs get."""
    told = item[1] + " = " + item[2] + in_parentheses([constant_text(constant) for constant in item[3]])
    if not item[4]:
        return told
    return told + ": " + ", ".join([word + " = " + expression_text(steps) for word, steps in item[4]])


def width_text(constant):
    """A width in brackets; nothing for one bit."""
    return "" if constant == ONE else "[" + constant_text(constant) + "]"


def when_text(steps):
    """When something comes to be; nothing for always."""
    return "" if steps is None else " when " + expression_text(steps)


def constant_text(constant, least=0):
    """The text of a constant, where it must bind at least as tightly as told."""
    stack = []
    for step in constant:
        if isinstance(step, int):
            stack.append((str(step), CONSTANT_ATOM))
        elif step in CONSTANT_LEVELS:
            level = CONSTANT_LEVELS[step]
            two = bound_text(stack.pop(), level + 1)
            one = bound_text(stack.pop(), level)
            stack.append((one + " " + step + " " + two, level))
        else:
            stack.append((step, CONSTANT_ATOM))
    return bound_text(stack[0], least)


def bound_text(told, least):
    """The text of a pair of a text and its level, in parentheses if it binds less tightly than told."""
    text, level = told
    return text if level >= least else "(" + text + ")"


def expression_text(steps):
    """The text of an expression."""
    stack = []
    for step in steps:
        if step[0] in LEVELS and LEVELS[step[0]] != SHIFTING:
            write_between(stack, step[0])
        elif step[0] == "?":
            write_pick(stack)
        elif step[0] == "{":
            write_joined(stack, step[1])
        elif step[0] in ("word", "out", "number", "sized", "at"):
            stack.append((single_text(step), TIGHTEST))
        else:
            write_behind(stack, step)
    return stack[0][0]


def single_text(step):
    """The text of a number or a word, or of an output or a word of another."""
    kind = step[0]
    if kind == "out":
        return step[1] + "." + step[2]
    if kind == "sized":
        return str(step[1]) + "'" + constant_text(step[2], CONSTANT_ATOM)
    if kind == "at":
        return step[1] + "[" + expression_text(step[2]) + "]"
    return str(step[1])


def write_between(stack, sign):
    """Puts a sign between the last two texts."""
    level = LEVELS[sign]
    two = bound_text(stack.pop(), level + 1)
    one = bound_text(stack.pop(), level + 1 if level == COMPARING else level)
    stack.append((one + " " + sign + " " + two, level))


def write_pick(stack):
    """Makes a choice of the last three texts."""
    other = bound_text(stack.pop(), LOOSEST)
    one = bound_text(stack.pop(), LOOSEST)
    asked = bound_text(stack.pop(), LOOSEST + 1)
    stack.append((asked + " ? " + one + " : " + other, LOOSEST))


def write_joined(stack, many):
    """Puts the last texts, so many, in braces."""
    first = len(stack) - many
    texts = [told[0] for told in stack[first:]]
    del stack[first:]
    stack.append(("{" + ", ".join(texts) + "}", TIGHTEST))


def write_behind(stack, step):
    """Writes what is asked of the last text alone."""
    kind = step[0]
    told = stack.pop()
    if kind == "~":
        stack.append(("~" + bound_text(told, DENYING), DENYING))
    elif kind == "bit":
        stack.append((bound_text(told, TIGHTEST) + "[" + constant_text(step[1]) + "]", TIGHTEST))
    elif kind == "bits":
        places = constant_text(step[1]) + ".." + constant_text(step[2])
        stack.append((bound_text(told, TIGHTEST) + "[" + places + "]", TIGHTEST))
    elif kind == "wide":
        stack.append(("wide(" + told[0] + ", " + constant_text(step[1]) + ")", TIGHTEST))
    elif kind in LEVELS:
        text = bound_text(told, SHIFTING) + " " + kind + " " + constant_text(step[1], CONSTANT_ATOM)
        stack.append((text, SHIFTING))
    else:
        stack.append((kind + "(" + told[0] + ")", TIGHTEST))


WRITERS = {
    "input": plain_text,
    "output": told_text,
    "wire": told_text,
    "register": held_text,
    "next": next_text,
    "reset": reset_text,
    "memory": memory_text,
    "write": write_text,
    "part": part_text,
}
