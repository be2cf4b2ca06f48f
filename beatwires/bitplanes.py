"""Bits of many places side by side in one integer: planes, the bit of the first place lowest."""

from beatwires.formulachecks import parts_of

FIGURES = "0123456789abcdef"


def variable_plane(at, many):
    """The plane over all numbers of so many bits that has the bit at a place of each of them."""
    half = 1 << at
    told = ((1 << half) - 1) << half
    wide = 2 * half
    while wide < 1 << many:
        told = told | told << wide
        wide = 2 * wide
    return told


def gate_plane(kind, planes, full):
    """The plane of a gate of a kind for the list of those of its nets; full is the plane of 1."""
    told = planes[0]
    if kind == "not":
        return full ^ told
    if kind == "pick":
        return planes[2] ^ told & (planes[1] ^ planes[2])
    for plane in planes[1:]:
        if kind == "and":
            told = told & plane
        elif kind == "or":
            told = told | plane
        else:
            told = told ^ plane
    return told


def formula_plane(formula, planes, full):
    """The plane of a formula for a dict of those of its names."""
    if formula[0] == "name":
        return planes[formula[1]]
    if formula[0] == "bit":
        return full if formula[1] else 0
    return gate_plane(formula[0], [formula_plane(part, planes, full) for part in parts_of(formula)], full)


def signs_of(plane, many):
    """The text of the bits of a plane of so many places, that of the first place first."""
    return f"{plane | 1 << many:b}"[:0:-1]


def first_place(plane):
    """The first place at which a plane has 1."""
    return (plane & -plane).bit_length() - 1


def figures_across(planes, many):
    """The text of the figures to base 16 whose four bits some planes have, a figure for each of so many places."""
    told = 1 << 4 * many
    for at, plane in enumerate(planes):
        # Read to base 16, the bits of a plane stand four apart, so that those of the others go between them.
        told = told | int(f"{plane:b}", 16) << 3 - at
    return f"{told:x}"[:0:-1]


def figure_numbers(things):
    """The dict from the tuples of figures to base 16 of the places in a list to what stands there."""
    told = {(): 0}
    while () in told or len(told) < len(things):
        told = {figures + (figure,): 16 * told[figures] + at for figures in told for at, figure in enumerate(FIGURES)}
    return {figures: things[told[figures]] for figures in told if told[figures] < len(things)}


def numbers_across(planes, many, known):
    """The list of what is known, by figure_numbers, for the numbers whose bits some planes have at so many places.

    The first plane has the uppermost bits.
    """
    fours = [0] * (-max(1, len(planes)) & 3) + (planes or [0])
    texts = [figures_across(fours[at:at + 4], many) for at in range(0, len(fours), 4)]
    return [known[figures] for figures in zip(*texts)]
