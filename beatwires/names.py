"""What is a bit, a name or a net."""

LETTERS = "abcdefghijklmnopqrstuvwxyz"
FIGURES = "0123456789"
NAME_SIGNS = "abcdefghijklmnopqrstuvwxyz0123456789_."
LONGEST_NAME = 24
LONGEST_WORD = 8


def is_number(thing):
    """Tells whether a thing is an integer; booleans are none."""
    return isinstance(thing, int) and not isinstance(thing, bool)


def is_bit(thing):
    """Tells whether a thing is 0 or 1."""
    return is_number(thing) and 0 <= thing <= 1


def is_name(thing, longest=LONGEST_NAME):
    """Tells whether a thing is a name of at most so many signs."""
    if not isinstance(thing, str) or not 1 <= len(thing) <= longest:
        return False
    return thing[0] in LETTERS and all([sign in NAME_SIGNS for sign in thing])


def is_net(thing):
    """Tells whether a thing is a name or the text of a bit."""
    return is_name(thing) or isinstance(thing, str) and thing in ("0", "1")


def is_word(thing):
    """Tells whether a thing is a word of small letters that is not too long."""
    return isinstance(thing, str) and 1 <= len(thing) <= LONGEST_WORD and all([sign in LETTERS for sign in thing])
