"""Which states of a circuit show the same for all rows, at all ticks."""


def like_classes(steps):
    """The dict from the states to numbers that are the same for those that show the same."""
    classes = numbered({state: steps.shown(state) for state in steps.states})
    rows = {state: steps.moves_from(state).by_rows() for state in steps.states}
    last = -1
    while max(list(classes.values())) > last:
        last = max(list(classes.values()))
        heirs = {state: tuple([classes[heir] for heir in rows[state]]) for state in steps.states}
        classes = numbered({state: (classes[state], heirs[state]) for state in steps.states})
    return classes


def numbered(told):
    """The dict from the keys of a dict to numbers that are the same where its values are."""
    numbers = {}
    found = {}
    for key in told:
        if told[key] not in numbers:
            numbers[told[key]] = len(numbers)
        found[key] = numbers[told[key]]
    return found
