"""Programs worked out on numbers."""

from beatwires.bitnumbers import lowest_bits
from beatwires.stacks import taken_off


def number_of(program, numbers, stored):
    """The number that a program tells, for those of the words, and lists of those of the memories."""
    stack = []
    for step in program:
        taken = taken_off(stack, step[1])
        if step[0] == "read":
            stack.append(numbers[step[3]])
        elif step[0] == "fetch":
            words = stored[step[3]]
            stack.append(words[taken[0]] if taken[0] < len(words) else 0)
        else:
            worker = WORKERS[step[0]]
            stack.append(worker(taken, step))
    return stack[0]


def told_number(taken, step):
    """A number itself."""
    return step[3]


def denied(taken, step):
    """All bits turned over."""
    return lowest_bits(-1 - taken[0], step[2])


def both(taken, step):
    """The bits that both have."""
    return taken[0] & taken[1]


def either(taken, step):
    """The bits that one of two has."""
    return taken[0] | taken[1]


def unlike(taken, step):
    """The bits that just one of two has."""
    return taken[0] ^ taken[1]


def added(taken, step):
    """The lowest bits of a sum."""
    return lowest_bits(taken[0] + taken[1], step[2])


def lessened(taken, step):
    """The lowest bits of a difference."""
    return lowest_bits(taken[0] - taken[1], step[2])


def equal(taken, step):
    """Whether two are the same."""
    return 1 if taken[0] == taken[1] else 0


def less(taken, step):
    """Whether one is less than the other."""
    return 1 if taken[0] < taken[1] else 0


def picked(taken, step):
    """One of two, as a bit tells."""
    return taken[1] if taken[0] else taken[2]


def moved_up(taken, step):
    """The bits moved up."""
    return lowest_bits(taken[0] << step[3], step[2])


def moved_down(taken, step):
    """The bits moved down."""
    return taken[0] >> step[3]


def behind_each_other(taken, step):
    """Some numbers joined, the uppermost first."""
    told = 0
    for at, width in enumerate(step[3]):
        told = (told << width) | taken[at]
    return told


def cut(taken, step):
    """Some bits that stand together."""
    return lowest_bits(taken[0] >> step[3], step[2])


def every_bit(taken, step):
    """Whether all bits are 1."""
    return 1 if taken[0] == (1 << step[3]) - 1 else 0


def some_bit(taken, step):
    """Whether one of the bits is 1."""
    return 1 if taken[0] else 0


def odd_bits(taken, step):
    """Whether an odd number of bits is 1."""
    return sum([(taken[0] >> at) & 1 for at in range(step[3])]) & 1


def widened(taken, step):
    """The number with another width."""
    return lowest_bits(taken[0], step[2])


WORKERS = {
    "number": told_number,
    "~": denied,
    "&": both,
    "|": either,
    "^": unlike,
    "+": added,
    "-": lessened,
    "==": equal,
    "<": less,
    "?": picked,
    "<<": moved_up,
    ">>": moved_down,
    "{": behind_each_other,
    "cut": cut,
    "all": every_bit,
    "any": some_bit,
    "odd": odd_bits,
    "wide": widened,
}
