"""Terms and formulas by chance, and what they are, worked out apart from the package."""


def term(dice, many, names="xy", most=None):
    """A term by chance with so many parts."""
    if many <= 1:
        if dice.random() < 0.65 and names:
            return ("name", dice.choice(names))
        return ("number", dice.choice([0, 1, -1, 2, 3, dice.randint(-20, 20), dice.randint(-1000, 1000)]))
    kind = dice.choice(["+", "-", "&", "|", "^", "~", "times", "up"]) if many > 2 else dice.choice(["~", "times", "up"])
    if kind == "~":
        return (kind, term(dice, many - 1, names, most))
    if kind == "times":
        return (kind, dice.randint(-(most or 30), most or 30), term(dice, many - 1, names, most))
    if kind == "up":
        return (kind, dice.randint(0, min(most or 6, 6)), term(dice, many - 1, names, most))
    first = dice.randint(1, many - 2)
    return (kind, term(dice, first, names, most), term(dice, many - 1 - first, names, most))


def formula(dice, many, names="xy", most=None):
    """A formula by chance with so many parts at least three."""
    kind = dice.choice(["equal", "less", "below", "not", "and", "or"]) if many > 6 else dice.choice(["equal", "less", "below"])
    if kind == "not":
        return (kind, formula(dice, many - 1, names, most))
    if kind in ("and", "or"):
        pieces = dice.choice([1, 2, 2])
        return (kind, tuple(formula(dice, max(3, (many - 1) // pieces), names, most) for _ in range(pieces)))
    first = dice.randint(1, max(1, many - 2))
    return (kind, term(dice, first, names, most), term(dice, max(1, many - 1 - first), names, most))


def parts(thing):
    """All parts, each one behind those in it."""
    inner = [part for part in thing[1:] if isinstance(part, tuple)]
    if thing[0] in ("and", "or"):
        inner = list(thing[1])
    return [one for part in inner for one in parts(part)] + [thing]


def names(thing):
    return sorted({part[1] for part in parts(thing) if part[0] == "name"})


def word(thing, width, values):
    """The number of a term, bits beyond cut off."""
    kind, rest = thing[0], thing[1:]
    if kind == "name":
        told = values[rest[0]]
    elif kind == "number":
        told = rest[0]
    elif kind == "times":
        told = rest[0] * word(rest[1], width, values)
    elif kind == "up":
        told = 2 ** rest[0] * word(rest[1], width, values)
    elif kind == "~":
        told = 2 ** width - 1 - word(rest[0], width, values)
    else:
        one, other = word(rest[0], width, values), word(rest[1], width, values)
        told = {"+": one + other, "-": one - other, "&": one & other, "|": one | other, "^": one ^ other}[kind]
    return told % 2 ** width


def highest_negative(number, width):
    return number - 2 ** width if number >= 2 ** (width - 1) else number


def truth(thing, width, values):
    """Whether a formula holds."""
    kind, rest = thing[0], thing[1:]
    if kind == "not":
        return not truth(rest[0], width, values)
    if kind == "and":
        return all([truth(one, width, values) for one in rest[0]])
    if kind == "or":
        return any([truth(one, width, values) for one in rest[0]])
    one, other = [word(part, width, values) for part in rest]
    if kind == "equal":
        return one == other
    if kind == "less":
        return one < other
    return highest_negative(one, width) < highest_negative(other, width)


def standing(thing, width, values):
    """The standing behind so many bits of some values, 0 for none, as [23] tells it, part by part."""
    told = []
    cut = {name: value % 2 ** width for name, value in values.items()}
    for part in parts(thing):
        kind = part[0]
        sides = [word(one, width, cut) if width else 0 for one in part[1:] if isinstance(one, tuple)] if kind in (
            "+", "-", "times", "up", "equal", "less", "below") else []
        if kind == "+":
            told.append(sum(sides) // 2 ** width)
        elif kind == "-":
            told.append(int(sides[0] < sides[1]))
        elif kind == "times":
            told.append(part[1] * sides[0] // 2 ** width)
        elif kind == "number":
            told.append(part[1] // 2 ** width)
        elif kind == "up":
            bits = [0] * part[1] + [sides[0] // 2 ** at % 2 for at in range(width)]
            last = bits[len(bits) - part[1]:]
            told.append(sum(bit * 2 ** at for at, bit in enumerate(last)))
        elif kind == "equal":
            told.append(int(sides[0] == sides[1]))
        elif kind == "less":
            told.append(int(sides[0] < sides[1]))
        elif kind == "below":
            so = width > 0 and highest_negative(sides[0], width) < highest_negative(sides[1], width)
            told.append(2 * int(sides[0] < sides[1]) + int(so))
    return tuple(told)
