"""Designs played word by word."""

from beatwires.circuits import copied_rows
from beatwires.layouts import lay_out
from beatwires.rowchecks import check_numbers
from beatwires.wordsteps import number_of


class Play:
    """A module of a design that is played, tick by tick."""

    def __init__(self, design, title, *numbers):
        self._layout = lay_out(design, title, numbers)
        self.ticks = 0
        self._held = {}
        self._stored = {}
        self.start()

    def start(self):
        """Goes back to the starts."""
        held = self._layout.held
        stores = self._layout.stores
        self._held = {name: held[name].first for name in held}
        self._stored = {name: [stores[name].first] * stores[name].many_words for name in stores}
        self.ticks = 0

    def tick(self, row):
        """The dict of the numbers of the outputs for one of those of the inputs; goes on to the next tick."""
        layout = self._layout
        check_numbers(layout.ins, row)
        numbers = {name: row[name] for name, _ in layout.ins}
        numbers.update(self._held)
        for name in layout.ordered:
            numbers[name] = number_of(layout.programs[name], numbers, self._stored)
        held = {name: becoming(layout.held[name], numbers[name], numbers, self._stored) for name in layout.held}
        stored = {name: written(layout.stores[name], self._stored[name], numbers, self._stored)
                  for name in layout.stores}
        self._held = held
        self._stored = stored
        self.ticks += 1
        return {name: numbers[name] for name, _ in layout.outs}


def becoming(held, now, numbers, stored):
    """The number that a register becomes."""
    for program in held.resets:
        if number_of(program, numbers, stored):
            return held.first
    if held.becomes is None or held.when is not None and not number_of(held.when, numbers, stored):
        return now
    return number_of(held.becomes, numbers, stored)


def written(store, now, numbers, stored):
    """The list of the words that a memory has next."""
    words = list(now)
    for place, told, when in store.writes:
        if when is None or number_of(when, numbers, stored):
            at = number_of(place, numbers, stored)
            if at < len(words):
                words[at] = number_of(told, numbers, stored)
    return words


def play(design, title, rows, /, *numbers):
    """Generates the outputs of a module of a design for some rows."""
    player = Play(design, title, *numbers)
    for row in copied_rows(rows):
        yield player.tick(row)
