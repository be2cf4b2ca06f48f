"""Programs worked out on lists of nets, the lowest bit first."""

from beatwires.stacks import taken_off

ZERO = "0"


def nets_of(program, nets, stored, store):
    """The nets of a program, for those of the words, and lists of those of the words of memories, put in a store."""
    stack = []
    for step in program:
        taken = taken_off(stack, step[1])
        if step[0] == "read":
            stack.append(nets[step[3]])
        elif step[0] == "fetch":
            stack.append(fetched(taken[0], stored[step[3]], step[2], store))
        else:
            worker = WORKERS[step[0]]
            stack.append(worker(taken, step, store))
    return stack[0]


def number_nets(number, width):
    """The nets of a number."""
    return ["1" if (number >> at) & 1 else "0" for at in range(width)]


def picked_nets(asked, one, other, store):
    """The nets of one where asked has 1, of the other where it has 0."""
    return [store.picked(asked, net, other[at]) for at, net in enumerate(one)]


def fetched(place, words, width, store):
    """The nets of the word with a number among some; zeros if there are not so many."""
    zeros = [ZERO] * width
    left = list(words)
    at = 0
    while len(left) > 1 and at < len(place):
        if len(left) & 1:
            left.append(zeros)
        left = [picked_nets(place[at], left[k + 1], left[k], store) for k in range(0, len(left), 2)]
        at += 1
    # Bits of the number that no word has lead to none of them.
    within = store.denied(store.either(place[at:]))
    return [store.both([within, net]) for net in left[0]]


def placed_at(place, number, store):
    """The net that tells whether a place, told by nets, is a number."""
    if number >> len(place):
        return ZERO
    return store.both([net if (number >> at) & 1 else store.denied(net) for at, net in enumerate(place)])


def told_number(taken, step, store):
    """A number itself."""
    return number_nets(step[3], step[2])


def denied(taken, step, store):
    """All bits turned over."""
    return [store.denied(net) for net in taken[0]]


def both(taken, step, store):
    """The bits that both have."""
    return [store.both([net, taken[1][at]]) for at, net in enumerate(taken[0])]


def either(taken, step, store):
    """The bits that one of two has."""
    return [store.either([net, taken[1][at]]) for at, net in enumerate(taken[0])]


def unlike(taken, step, store):
    """The bits that just one of two has."""
    return [store.odd([net, taken[1][at]]) for at, net in enumerate(taken[0])]


def added(taken, step, store):
    """The lowest bits of a sum."""
    carry = ZERO
    nets = []
    for at, net in enumerate(taken[0]):
        apart = store.odd([net, taken[1][at]])
        nets.append(store.odd([apart, carry]))
        carry = store.picked(apart, carry, net)
    return nets


def lessened(taken, step, store):
    """The lowest bits of a difference."""
    lent = ZERO
    nets = []
    for at, net in enumerate(taken[0]):
        apart = store.odd([net, taken[1][at]])
        nets.append(store.odd([apart, lent]))
        lent = store.picked(apart, taken[1][at], lent)
    return nets


def equal(taken, step, store):
    """Whether two are the same."""
    return [store.both([store.denied(net) for net in unlike(taken, step, store)])]


def less(taken, step, store):
    """Whether one is less than the other."""
    told = ZERO
    for at, net in enumerate(taken[0]):
        told = store.picked(store.odd([net, taken[1][at]]), taken[1][at], told)
    return [told]


def picked(taken, step, store):
    """One of two, as a bit tells."""
    return picked_nets(taken[0][0], taken[1], taken[2], store)


def moved_up(taken, step, store):
    """The bits moved up."""
    return ([ZERO] * step[3] + taken[0])[:step[2]]


def moved_down(taken, step, store):
    """The bits moved down."""
    return (taken[0] + [ZERO] * step[3])[step[3]:]


def behind_each_other(taken, step, store):
    """Some words joined, the uppermost first."""
    return [net for nets in reversed(taken) for net in nets]


def cut(taken, step, store):
    """Some bits that stand together."""
    return taken[0][step[3]:step[3] + step[2]]


def every_bit(taken, step, store):
    """Whether all bits are 1."""
    return [store.both(taken[0])]


def some_bit(taken, step, store):
    """Whether one of the bits is 1."""
    return [store.either(taken[0])]


def odd_bits(taken, step, store):
    """Whether an odd number of bits is 1."""
    return [store.odd(taken[0])]


def widened(taken, step, store):
    """The word with another width."""
    return (taken[0] + [ZERO] * step[2])[:step[2]]


WORKERS = {
    "number": told_number,
    "~": denied,
    "&": both,
    "|": either,
    "^": unlike,
    "+": added,
    "-": lessened,
    "==": equal,
    "<": less,
    "?": picked,
    "<<": moved_up,
    ">>": moved_down,
    "{": behind_each_other,
    "cut": cut,
    "all": every_bit,
    "any": some_bit,
    "odd": odd_bits,
    "wide": widened,
}
