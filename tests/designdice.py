"""Expressions by chance: as trees, as texts with few or with all parentheses, and what they mean."""

LEVEL = {"?": 0, "|": 1, "^": 2, "&": 3, "==": 4, "<": 4, "+": 5, "-": 5, "<<": 6, ">>": 6, "~": 7}


class Scope:
    """Words with their widths, memories with how many words of which width, outputs of parts with their widths."""

    def __init__(self, words, memories=(), outputs=()):
        self.words = dict(words)
        self.memories = dict(memories)
        self.outputs = dict(outputs)


def expression(dice, scope, width, deep):
    """A tree for this many bits: (kind, width, ...)."""
    if deep == 0 or dice.random() < 0.12:
        return single(dice, scope, width)
    kinds = ["~", "&", "|", "^", "+", "-", "?", "<<", ">>", "wide", "bits", "fetch"]
    if width > 1:
        kinds += ["join", "join"]
    if width == 1:
        kinds += ["==", "<", "all", "any", "odd", "bit"] * 2
    kind = dice.choice(kinds)

    def inner(bits):
        return expression(dice, scope, bits, deep - 1)
    if kind == "~":
        return (kind, width, inner(width))
    if kind in ("&", "|", "^", "+", "-"):
        return (kind, width, inner(width), inner(width))
    if kind == "?":
        return (kind, width, inner(1), inner(width), inner(width))
    if kind in ("<<", ">>"):
        return (kind, width, inner(width), dice.randrange(17))
    if kind in ("==", "<"):
        bits = dice.randrange(1, 6)
        return (kind, 1, inner(bits), inner(bits))
    if kind in ("all", "any", "odd"):
        return (kind, 1, inner(dice.randrange(1, 6)))
    if kind == "wide":
        return (kind, width, inner(dice.randrange(1, 8)))
    if kind == "bit":
        bits = dice.randrange(1, 6)
        return (kind, 1, inner(bits), dice.randrange(bits))
    if kind == "bits":
        bits = dice.randrange(width, 17)
        low = dice.randrange(bits - width + 1)
        return (kind, width, inner(bits), low + width - 1, low)
    if kind == "join":
        first = dice.randrange(1, width)
        return (kind, width, inner(first), inner(width - first))
    found = [name for name in scope.memories if scope.memories[name][1] == width]
    if not found:
        return single(dice, scope, width)
    return ("fetch", width, dice.choice(found), inner(dice.randrange(1, 6)))


def single(dice, scope, width):
    found = [("word", width, name) for name in scope.words if scope.words[name] == width]
    found += [("out", width, name) for name in scope.outputs if scope.outputs[name] == width]
    if found and dice.random() < 0.8:
        return dice.choice(found)
    return ("number", width, dice.randrange(1 << width))


def text(tree, full):
    """The text of a tree; with all parentheses that may stand, or with as few as needed."""
    return put(tree, full)[0]


def put(tree, full):
    kind, width = tree[0], tree[1]

    def at(told, least):
        inside, level = put(told, full)
        if kind in ("bit", "bits") and told[0] == "word":
            return inside
        return f"({inside})" if full or level < least else inside
    if kind in ("word", "out"):
        return tree[2], 9
    if kind == "number":
        return (str(tree[2]) if width == 1 else f"{tree[2]}'{width}"), 9
    if kind == "~":
        return "~" + at(tree[2], 7), 7
    if kind == "?":
        return f"{at(tree[2], 1)} ? {at(tree[3], 0)} : {at(tree[4], 0)}", 0
    if kind in ("<<", ">>"):
        return f"{at(tree[2], 6)} {kind} {tree[3]}", 6
    if kind in LEVEL:
        level = LEVEL[kind]
        return f"{at(tree[2], level + (level == 4))} {kind} {at(tree[3], level + 1)}", level
    if kind in ("all", "any", "odd"):
        return f"{kind}({at(tree[2], 0)})", 9
    if kind == "wide":
        return f"wide({at(tree[2], 0)}, {width})", 9
    if kind == "bit":
        return f"{at(tree[2], 9)}[{tree[3]}]", 9
    if kind == "bits":
        return f"{at(tree[2], 9)}[{tree[3]}..{tree[4]}]", 9
    if kind == "join":
        return f"{{{at(tree[2], 0)}, {at(tree[3], 0)}}}", 9
    return f"{tree[2]}[{at(tree[3], 0)}]", 9


def means(tree, numbers, memories):
    """The number that a tree tells, for dicts of the numbers of words and of the lists of memories."""
    kind, width = tree[0], tree[1]
    most = (1 << width) - 1
    if kind in ("word", "out"):
        return numbers[tree[2]]
    if kind == "number":
        return tree[2]
    if kind == "fetch":
        at = means(tree[3], numbers, memories)
        return memories[tree[2]][at] if at < len(memories[tree[2]]) else 0
    told = [means(one, numbers, memories) for one in tree[2:] if isinstance(one, tuple)]
    if kind == "?":
        return told[1] if told[0] == 1 else told[2]
    if kind == "join":
        return told[0] * 2 ** tree[3][1] + told[1]
    digits = format(told[0], "b").zfill(tree[2][1])
    return {
        "~": lambda: most - told[0],
        "&": lambda: told[0] & told[1],
        "|": lambda: told[0] | told[1],
        "^": lambda: told[0] ^ told[1],
        "+": lambda: (told[0] + told[1]) % (most + 1),
        "-": lambda: (told[0] - told[1]) % (most + 1),
        "==": lambda: int(told[0] == told[1]),
        "<": lambda: int(told[0] < told[1]),
        "<<": lambda: told[0] * 2 ** tree[3] % (most + 1),
        ">>": lambda: told[0] // 2 ** tree[3],
        "all": lambda: int("0" not in digits),
        "any": lambda: int("1" in digits),
        "odd": lambda: digits.count("1") % 2,
        "wide": lambda: told[0] % (most + 1),
        "bit": lambda: int(digits[::-1][tree[3]]),
        "bits": lambda: told[0] // 2 ** tree[4] % (most + 1),
    }[kind]()
