"""What is under way in a pipe, tick by tick.

For each register there is a tuple of entries in the order of issue: the kind and the age of each instruction that is
under way with it as its goal, and those whose results were written, told by the ages PRESENT and GONE. Behind these two
an entry may have more, which goes on with it.
"""

WRITTEN = ""
PRESENT = 0
GONE = 1
JUST = 2


def can_be_read(kinds, entry):
    """Tells whether the result of an entry is in the register, or can be taken."""
    if entry[0] == WRITTEN:
        return entry[1] == PRESENT
    way = kinds[entry[0]][2]
    return way is not None and entry[1] >= way


def is_held(pipe, standing, instruction):
    """Tells whether an instruction is held from a standing on."""
    kind, goal, sources = instruction
    if pipe.holds:
        for source in sources:
            last = standing[source][-1]
            if last[0] != WRITTEN and not can_be_read(pipe.kinds, last):
                return True
    if not pipe.orders or goal < 0:
        return False
    length = pipe.kinds[kind][1]
    for entry in standing[goal]:
        if entry[0] != WRITTEN and pipe.kinds[entry[0]][1] - entry[1] > length:
            return True
    return False


def grown(kinds, entry):
    """An entry one tick later, with the age JUST if its result is written then."""
    kind, age = entry[0], entry[1]
    if kind == WRITTEN:
        return entry
    if age + 1 < kinds[kind][1]:
        return (kind, age + 1) + entry[2:]
    return (WRITTEN, JUST) + entry[2:]


def aged(kinds, entries):
    """The entries of a register one tick later."""
    older = [grown(kinds, entry) for entry in entries]
    just = [at for at, entry in enumerate(older) if entry[:2] == (WRITTEN, JUST)]
    if not just:
        return tuple(older)
    present = just[-1]
    last = max([at for at, entry in enumerate(older) if entry[0] == WRITTEN])
    kept = []
    for at, entry in enumerate(older):
        if entry[0] != WRITTEN:
            kept.append(entry)
        elif at == present:
            kept.append((WRITTEN, PRESENT) + entry[2:])
        elif at == last:
            kept.append((WRITTEN, GONE) + entry[2:])
    return tuple(kept)


def ended(kinds, entries):
    """The entries of a register when all results are written."""
    while any([entry[0] != WRITTEN for entry in entries]):
        entries = aged(kinds, entries)
    return entries


def read_entry(kinds, entries):
    """The entry from which an instruction that is issued reads a register."""
    return [entry for entry in entries if can_be_read(kinds, entry)][-1]


def put_under_way(standing, instruction, more):
    """The standing with an instruction that is issued, and more that goes on with it."""
    kind, goal, _ = instruction
    if goal < 0:
        return standing
    return standing[:goal] + (standing[goal] + ((kind, 0) + more,),) + standing[goal + 1:]
