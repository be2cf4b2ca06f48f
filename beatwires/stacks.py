"""Lists that are worked on from their end."""


def taken_off(stack, many):
    """The list of the last things of a stack, so many, which are taken off it."""
    first = len(stack) - many
    taken = stack[first:]
    del stack[first:]
    return taken
