"""Searches from states, or pairs of states, to those that rows lead to."""


def reach(system, begins):
    """The dict from all numbers that rows lead to from some of them to the one each was first reached from."""
    found = {number: None for number in begins}
    waiting = list(found)
    at = 0
    while at < len(waiting) and len(found) < system.total:
        spread(system, waiting[at], found, waiting)
        at += 1
    return found


def seek(system, begins):
    """What reach returns up to the first number that is a goal, and this number, None if there is none."""
    found = {number: None for number in begins}
    waiting = list(found)
    at = 0
    while at < len(waiting):
        if system.is_goal(waiting[at]):
            return found, waiting[at]
        spread(system, waiting[at], found, waiting)
        at += 1
    return found, None


def spread(system, number, found, waiting):
    """Puts the numbers behind one that were not found up to now among those that are found, and that wait."""
    for heir in system.heirs(number):
        if heir not in found:
            found[heir] = number
            waiting.append(heir)


def layers_from(system, begins):
    """What reach returns, and the list of the lists of numbers that are reached by so many rows, and by no fewer."""
    found = {number: None for number in begins}
    layers = []
    layer = list(found)
    while layer:
        layers.append(layer)
        ahead = []
        for number in layer:
            if len(found) < system.total:
                spread(system, number, found, ahead)
        layer = ahead
    return found, layers


def path_to(found, number):
    """The numbers on the way to one that was found."""
    path = [number]
    while found[path[-1]] is not None:
        path.append(found[path[-1]])
    return path[::-1]


def rows_along(system, path):
    """The list of the first rows that lead along a path."""
    return [system.row(system.row_to(path[at], path[at + 1])) for at in range(len(path) - 1)]


def rows_to_goal(system, found, goal):
    """The rows to a number that is a goal, and the row that shows it there."""
    return rows_along(system, path_to(found, goal)) + [system.row(system.goal_row(goal))]


def stays_within(system, numbers, inside):
    """Tells whether all rows lead from some numbers to those of a dict."""
    if len(inside) == system.total:
        return True
    return all([all([heir in inside for heir in system.heirs(number)]) for number in numbers])


def is_closed(system, inside):
    """Tells whether the numbers of a dict are no goals, and all rows lead from them to others of it."""
    numbers = list(inside)
    if any([system.is_goal(number) for number in numbers]):
        return False
    return stays_within(system, numbers, inside)
