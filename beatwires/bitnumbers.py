"""Numbers of some bits, and the names of the bits of words."""

from beatwires.names import is_number


def lowest_bits(number, width):
    """The number of the lowest bits of a number, which may be below 0."""
    return number & ((1 << width) - 1)


def is_wide(thing, width):
    """Tells whether a thing is a number of so many bits."""
    return is_number(thing) and 0 <= thing < 1 << width


def bit_names(word, width):
    """The list of the names of the bits of a word, the lowest first."""
    return [word] if width == 1 else [f"{word}.{at}" for at in range(width)]
