"""What is a term or a formula of words of all widths, and which names are in it."""

from beatwires.names import is_number, is_word

MOST_PARTS = 40
GREATEST_NUMBER = 1000
MOST_TIMES = 30
MOST_UP = 6
JOINING = ("+", "-", "&", "|", "^")
COMPARING = ("equal", "less", "below")


def terms_in(thing):
    """The list of the terms of which a term is made; None if it is none by its form."""
    if not isinstance(thing, tuple) or not 2 <= len(thing) <= 3 or not isinstance(thing[0], str):
        return None
    kind, told = thing[:2]
    if len(thing) == 2:
        if kind == "name" and is_word(told) or kind == "number" and is_between(told, -GREATEST_NUMBER, GREATEST_NUMBER):
            return []
        return [told] if kind == "~" else None
    if kind in JOINING:
        return [told, thing[2]]
    if kind == "times" and is_between(told, -MOST_TIMES, MOST_TIMES) or kind == "up" and is_between(told, 0, MOST_UP):
        return [thing[2]]
    return None


def is_between(thing, least, most):
    """Tells whether a thing is an integer between two."""
    return is_number(thing) and least <= thing <= most


def parts_in(thing, asked):
    """The list of pairs of the parts of which a thing is made, and whether each is asked to be a formula.

    None if it is none by its form.
    """
    if not asked:
        terms = terms_in(thing)
        return None if terms is None else [(term, False) for term in terms]
    if not isinstance(thing, tuple) or len(thing) < 2 or not isinstance(thing[0], str):
        return None
    kind, told = thing[:2]
    if len(thing) == 3 and kind in COMPARING:
        return [(term, False) for term in thing[1:]]
    if len(thing) == 2 and kind == "not":
        return [(told, True)]
    if len(thing) == 2 and kind in ("and", "or") and isinstance(told, tuple):
        return [(formula, True) for formula in told]
    return None


def ordered_parts(thing, asked):
    """The list of pairs of all parts of a term, or a formula if it is asked to be one, and the number of parts in each.

    Each one stands behind those in it, the first of these ahead of the second; None if the thing is none.
    """
    found = []
    waiting = [(thing, asked)]
    while waiting:
        one, formula = waiting.pop()
        parts = parts_in(one, formula)
        found.append((one, 0 if parts is None else len(parts)))
        if parts is None or asked and len(found) > MOST_PARTS:
            return None
        waiting.extend(parts)
    return found[::-1]


def names_in(parts):
    """The ascending list of the names among some parts."""
    return sorted({part[1] for part, _ in parts if part[0] == "name"})
