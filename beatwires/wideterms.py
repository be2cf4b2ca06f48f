"""Terms and formulas of words, worked out at a width."""

from beatwires.bitnumbers import is_wide, lowest_bits
from beatwires.names import is_number
from beatwires.planerrors import BadTerm, BadWidth
from beatwires.stacks import taken_off
from beatwires.termchecks import names_in, ordered_parts

WIDEST = 200


def need_parts(thing, asked):
    """The ordered parts of a term, or of a formula if it is asked to be one; raises BadTerm if it is none."""
    parts = ordered_parts(thing, asked)
    if parts is None:
        raise BadTerm("no formula" if asked else "no term")
    return parts


def need_width(width):
    """Raises BadWidth if a thing is no width."""
    if not is_number(width) or not 1 <= width <= WIDEST:
        raise BadWidth("no width")


def are_values(names, width, values):
    """Tells whether a thing is a dict with numbers of a width for all names, perhaps more."""
    return isinstance(values, dict) and all([name in values and is_wide(values[name], width) for name in names])


def need_values(names, width, values):
    """Raises BadTerm if a thing is no dict with numbers of a width for all names."""
    if not are_values(names, width, values):
        raise BadTerm("no values of all names")


def told_number(part, taken, width):
    """A number itself."""
    return part[1]


def denied(part, taken, width):
    """All bits turned over."""
    return ~taken[0]


def times(part, taken, width):
    """So many times a number."""
    return part[1] * taken[0]


def moved_up(part, taken, width):
    """The bits moved up."""
    return taken[0] << part[1]


def added(part, taken, width):
    """A sum."""
    return taken[0] + taken[1]


def lessened(part, taken, width):
    """A difference."""
    return taken[0] - taken[1]


def both(part, taken, width):
    """The bits that both have."""
    return taken[0] & taken[1]


def either(part, taken, width):
    """The bits that one of two has."""
    return taken[0] | taken[1]


def unlike(part, taken, width):
    """The bits that just one of two has."""
    return taken[0] ^ taken[1]


def equal(part, taken, width):
    """Whether two are the same."""
    return taken[0] == taken[1]


def less(part, taken, width):
    """Whether one is less than the other."""
    return taken[0] < taken[1]


def below(part, taken, width):
    """Whether one is less than the other where the highest bit counts negative."""
    half = 1 << (width - 1)
    # Turning the highest bits over puts the negative numbers first.
    return taken[0] ^ half < taken[1] ^ half


def turned(part, taken, width):
    """Whether a formula does not hold."""
    return not taken[0]


def every(part, taken, width):
    """Whether all formulas hold."""
    return all(taken)


def some(part, taken, width):
    """Whether one of the formulas holds."""
    return any(taken)


TERM_WORKERS = {
    "number": told_number,
    "~": denied,
    "times": times,
    "up": moved_up,
    "+": added,
    "-": lessened,
    "&": both,
    "|": either,
    "^": unlike,
}
FORMULA_WORKERS = {
    "equal": equal,
    "less": less,
    "below": below,
    "not": turned,
    "and": every,
    "or": some,
}


def told_at(parts, width, values):
    """The number or the truth of the last one of some ordered parts."""
    stack = []
    for part, many in parts:
        taken = taken_off(stack, many)
        if part[0] == "name":
            stack.append(values[part[1]])
        elif part[0] in TERM_WORKERS:
            worker = TERM_WORKERS[part[0]]
            stack.append(lowest_bits(worker(part, taken, width), width))
        else:
            worker = FORMULA_WORKERS[part[0]]
            stack.append(worker(part, taken, width))
    return stack[0]


def word_of(term, width, values):
    """The number that a term is at a width, for a dict of the numbers of its names."""
    parts = need_parts(term, False)
    need_width(width)
    need_values(names_in(parts), width, values)
    return told_at(parts, width, values)


def holds_at(formula, width, values):
    """Tells whether a formula holds at a width, for a dict of the numbers of its names."""
    parts = need_parts(formula, True)
    need_width(width)
    need_values(names_in(parts), width, values)
    return told_at(parts, width, values)
