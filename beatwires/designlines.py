"""The lines of a text of designs: their words, numbers and signs, read one behind the other."""

from beatwires.errors import BadText
from beatwires.names import FIGURES, LETTERS

LANGUAGE_WORDS = (
    "module", "end", "input", "output", "register", "wire", "next", "reset", "memory", "write", "part", "when", "all",
    "any", "odd", "wide",
)
SIGNS = (
    "==", "<<", ">>", "..", "(", ")", "[", "]", "{", "}", ",", ":", "?", "=", "<", "+", "-", "*", "&", "|", "^", "~",
    "'", ".",
)
LONGEST_WORD = 12
LONGEST_NUMBER = 5
MOST_TOKENS = 200
MOST_AROUND = 30


class Line:
    """The words, numbers and signs of a line, and the place of the next one."""

    def __init__(self, tokens, number, behind):
        self.tokens = tokens
        self.number = number
        self.behind = behind
        self.place = 0

    def peek(self):
        """The next word, number or sign; an empty text behind the last one."""
        if self.place == len(self.tokens):
            return ""
        if self.place == MOST_TOKENS:
            self.refuse()
        return self.tokens[self.place][0]

    def refuse(self):
        """Tells that what comes next cannot stand."""
        column = self.behind
        if self.place < len(self.tokens):
            column = self.tokens[self.place][1]
        raise BadText(self.number, column)

    def take(self, told):
        """Goes on behind what must come next."""
        if self.peek() != told:
            self.refuse()
        self.place += 1

    def enter(self, sign, depth):
        """Goes on behind a sign that holds what comes, within so many of these; returns the new depth."""
        if self.peek() != sign or depth == MOST_AROUND:
            self.refuse()
        self.place += 1
        return depth + 1

    def word(self):
        """Goes on behind a word that is none of the language; returns it."""
        told = self.peek()
        if told == "" or told[0] not in LETTERS or told in LANGUAGE_WORDS or len(told) > LONGEST_WORD:
            self.refuse()
        self.place += 1
        return told

    def new_word(self, known):
        """Goes on behind a word that is not known yet; returns it."""
        if self.peek() in known:
            self.refuse()
        return self.word()

    def has_figures(self):
        """Tells whether a number comes next."""
        told = self.peek()
        return told != "" and told[0] in FIGURES

    def figures(self):
        """Goes on behind the number that comes next; returns it."""
        told = int(self.peek())
        self.place += 1
        return told

    def finish(self):
        """Tells that nothing more may come."""
        if self.peek() != "":
            self.refuse()


def lines_of(text):
    """The Lines of a text that have words, numbers or signs."""
    lines = []
    for at, told in enumerate(text.split("\n")):
        tokens = tokens_of(told, at + 1)
        if tokens:
            lines.append(Line(tokens, at + 1, len(told) + 1))
    return lines


def tokens_of(told, number):
    """The pairs of the words, numbers and signs of a line and their columns."""
    tokens = []
    at = 0
    while at < len(told) and told[at] != "#":
        if told[at] == " ":
            at += 1
            continue
        token = token_at(told, at)
        if token == "":
            raise BadText(number, at + 1)
        tokens.append((token, at + 1))
        at += len(token)
    return tokens


def token_at(told, at):
    """The word, number or sign that begins at a place of a line; an empty text if there is none."""
    if told[at] in LETTERS:
        return run_of(told, at, LETTERS + FIGURES)
    if told[at] in FIGURES:
        figures = run_of(told, at, FIGURES)
        # Figures that stand together are one number, or none at all.
        return figures if len(figures) <= LONGEST_NUMBER and str(int(figures)) == figures else ""
    for sign in SIGNS:
        if told.startswith(sign, at):
            return sign
    return ""


def run_of(told, at, signs):
    """What stands together of some signs, from a place of a line on."""
    behind = at
    while behind < len(told) and told[behind] in signs:
        behind += 1
    return told[at:behind]
