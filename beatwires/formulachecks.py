"""What is a formula, which names are in it, and which bit it has."""

from beatwires.errors import BadFormula
from beatwires.gatebits import JOINING, gate_bit
from beatwires.names import is_bit, is_name

MOST_PARTS = 400
DEEPEST = 40


def parts_of(thing):
    """The list of what a formula is put together of; None if it is none by its form."""
    if not isinstance(thing, tuple) or len(thing) < 2 or not isinstance(thing[0], str):
        return None
    kind = thing[0]
    if kind == "pick":
        return list(thing[1:]) if len(thing) == 4 else None
    if len(thing) != 2:
        return None
    told = thing[1]
    if kind == "not":
        return [told]
    if kind in JOINING:
        return list(told) if isinstance(told, tuple) and len(told) >= 2 else None
    if kind == "name" and is_name(told) or kind == "bit" and is_bit(told):
        return []
    return None


def is_formula(thing):
    """Tells whether a thing is a formula, not nested too deep, of not too many parts."""
    waiting = [(thing, 1)]
    many = 0
    while waiting:
        one, depth = waiting.pop()
        many += 1
        parts = parts_of(one)
        if parts is None or many > MOST_PARTS or depth > DEEPEST:
            return False
        waiting.extend([(part, depth + 1) for part in parts])
    return True


def names_of(formula):
    """The ascending list of the names in a formula."""
    names = set()
    waiting = [formula]
    while waiting:
        one = waiting.pop()
        if one[0] == "name":
            names.add(one[1])
        waiting.extend(parts_of(one))
    return sorted(names)


def check_named(formula, known):
    """Raises BadFormula with None if a thing is no formula, with the first of its names that is not a known one."""
    if not is_formula(formula):
        raise BadFormula(None)
    for name in names_of(formula):
        if name not in known:
            raise BadFormula(name)


def formula_bit(formula, bits):
    """The bit of a formula for a dict with a bit for each of its names."""
    if formula[0] == "name":
        return bits[formula[1]]
    if formula[0] == "bit":
        return formula[1]
    return gate_bit(formula[0], [formula_bit(part, bits) for part in parts_of(formula)])
