"""Sets of states, and of pairs of states: as numbers, and as diagrams."""

from beatwires.diagramrows import EVER, NEVER, Branches
from beatwires.diagrams import Diagram


def set_of(order, numbers):
    """The diagram of the numbers whose bits are those of the names of an order, that of the first one uppermost."""
    branches = Branches()
    root = end_of(branches, numbers, 0, len(order))
    rows, top = branches.rows_of(root)
    return Diagram(order, rows, top)


def end_of(branches, numbers, place, many):
    """The end of the numbers, all of which have the same bits ahead of a place."""
    if not numbers:
        return NEVER
    if len(numbers) == 1 << (many - place):
        return EVER
    bit = 1 << (many - place - 1)
    low = end_of(branches, [number for number in numbers if not number & bit], place + 1, many)
    high = end_of(branches, [number for number in numbers if number & bit], place + 1, many)
    return branches.branch(place, low, high)


def numbers_in(diagram):
    """The ascending list of the numbers in a diagram."""
    many = len(diagram.order)
    found = []
    waiting = [(0, 0, diagram.root)]
    while waiting:
        place, number, end = waiting.pop()
        if end == EVER:
            found.extend(list(range(number << (many - place), (number + 1) << (many - place))))
        elif end >= 0 and diagram.rows[end][0] == place:
            waiting.append((place + 1, 2 * number + 1, diagram.rows[end][2]))
            waiting.append((place + 1, 2 * number, diagram.rows[end][1]))
        elif end >= 0:
            waiting.append((place + 1, 2 * number + 1, end))
            waiting.append((place + 1, 2 * number, end))
    return found


def members(diagram):
    """The dict with True for each number in a diagram."""
    return {number: True for number in numbers_in(diagram)}
