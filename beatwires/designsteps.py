"""How expressions and constants are kept, and how tightly signs bind.

An expression is a tuple of steps, what it is made of ahead of it, from left to right; a constant likewise is a tuple of
numbers, names of widths and signs. So nothing of them is nested but the words of memories.
"""

LEVELS = {"|": 1, "^": 2, "&": 3, "==": 4, "<": 4, "+": 5, "-": 5, "<<": 6, ">>": 6}
LOOSEST = 0
COMPARING = 4
SHIFTING = 6
DENYING = 7
TIGHTEST = 8
CONSTANT_LEVELS = {"+": 1, "-": 1, "*": 2}
CONSTANT_ATOM = 3
ONE = (1,)


def constant_of(steps):
    """The constant that an expression is told like, or None if it is told like none."""
    told = []
    for step in steps:
        if step[0] in ("number", "word"):
            told.append(step[1])
        elif step[0] in ("+", "-"):
            told.append(step[0])
        else:
            return None
    return tuple(told)


def put_together(sign, one, two):
    """The number that two numbers with a sign of constants between them are."""
    if sign == "*":
        return one * two
    return one + two if sign == "+" else one - two


def constant_value(constant, widths):
    """The number that a constant is, for a dict of the numbers of widths; None if a name is none of these."""
    stack = []
    for step in constant:
        if isinstance(step, int):
            stack.append(step)
        elif step in CONSTANT_LEVELS:
            two = stack.pop()
            one = stack.pop()
            stack.append(put_together(step, one, two))
        elif step in widths:
            stack.append(widths[step])
        else:
            return None
    return stack[0]
