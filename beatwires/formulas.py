"""Formulas of names and bits, and Wires, which put them together by signs."""

from beatwires.errors import BadFormula
from beatwires.formulachecks import formula_bit, is_formula, names_of
from beatwires.names import is_bit, is_name


def holds(formula, bits):
    """The bit of a formula for a dict with the bits of its names."""
    if not is_formula(formula):
        raise BadFormula(None)
    for name in names_of(formula):
        if not isinstance(bits, dict) or not is_bit(bits.get(name)):
            raise BadFormula(name)
    return formula_bit(formula, bits)


class Wire:
    """A formula as an object."""

    def __init__(self, thing):
        self.told = told_by(thing)

    def __and__(self, other):
        return joined("and", self, other)

    def __rand__(self, other):
        return joined("and", other, self)

    def __or__(self, other):
        return joined("or", self, other)

    def __ror__(self, other):
        return joined("or", other, self)

    def __xor__(self, other):
        return joined("xor", self, other)

    def __rxor__(self, other):
        return joined("xor", other, self)

    def __invert__(self):
        return Wire(("not", self.told))

    def __rshift__(self, other):
        return joined("or", ("not", self.told), other)

    def __call__(self, one, other=0):
        return Wire(("pick", self.told, told_by(one), told_by(other)))

    def __contains__(self, name):
        return name in names_of(self.told)

    def __eq__(self, other):
        return isinstance(other, Wire) and self.told == other.told


def told_by(thing):
    """The formula that a thing tells."""
    told = thing
    if isinstance(thing, Wire):
        told = thing.told
    elif is_bit(thing):
        told = ("bit", thing)
    elif is_name(thing):
        told = ("name", thing)
    if not is_formula(told):
        raise BadFormula(None)
    return told


def joined(kind, one, other):
    """The Wire of two things put together; one of this kind gives its own formulas."""
    parts = []
    for thing in (one, other):
        told = told_by(thing)
        parts.extend(list(told[1]) if told[0] == kind else [told])
    return Wire((kind, tuple(parts)))


def bit_at(wire, **bits):
    """The bit of a Wire for the bits of its names."""
    return holds(wire.told if isinstance(wire, Wire) else wire, bits)
