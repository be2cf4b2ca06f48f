"""The errors about pipes, plans and terms."""

from beatwires.errors import BeatError


class BadTerm(BeatError):
    """A term or formula that is none, or values that are not those of its names."""


class BadWidth(BeatError):
    """A width that is none."""


class BadPlan(BeatError):
    """A plan that is none."""


class NoPlacing(BeatError):
    """There are no such moves of registers."""


class BadPipe(BeatError):
    """A pipe that is none; with the name of the first setting that is wrong, or None."""

    def __init__(self, name):
        BeatError.__init__(self, f"no pipe: {name}")
        self.name = name


class BadProgram(BeatError):
    """A program that is none of the pipe."""
