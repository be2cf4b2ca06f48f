"""The errors that the package raises."""


class BeatError(ValueError):
    """The base of all errors of the package."""


class BadCircuit(BeatError):
    """A circuit that is none; with the name of what is wrong in it, or None."""

    def __init__(self, name):
        BeatError.__init__(self, f"no circuit: {name}")
        self.name = name


class Looped(BeatError):
    """Gates that read each other in a ring; with the list of their names."""

    def __init__(self, names):
        BeatError.__init__(self, f"a ring of {len(names)} gates")
        self.names = list(names)


class BadRow(BeatError):
    """A row that has not just the bits or numbers of the inputs."""


class BadState(BeatError):
    """A state that has not just the bits of the registers."""


class BadFormula(BeatError):
    """A formula that is none (with None), or a name of it that has no bit or place."""

    def __init__(self, name):
        BeatError.__init__(self, f"no formula: {name}")
        self.name = name


class BadOrder(BeatError):
    """An order of names that is none."""


class BadDiagram(BeatError):
    """A diagram that is none, or a call of one without bits of all its names."""


class BadText(BeatError):
    """A text that tells no design; with the line and the column of what is wrong."""

    def __init__(self, line, column):
        BeatError.__init__(self, f"line {line}, column {column}")
        self.line = line
        self.column = column


class Unlike(BeatError):
    """Circuits with other inputs or outputs; with what it is that they have."""

    def __init__(self, what):
        BeatError.__init__(self, f"other {what}")
        self.what = what


class NoPart(BeatError):
    """A name that nothing of the needed kind has."""

    def __init__(self, name):
        BeatError.__init__(self, f"nothing has the name {name}")
        self.name = name


class BadDesign(BeatError):
    """A design that can't be made; with the module, the word and why it is wrong."""

    def __init__(self, module, name, why):
        BeatError.__init__(self, f"{module}, {name}: {why}")
        self.module = module
        self.name = name
        self.why = why
