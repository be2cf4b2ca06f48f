"""[22]: terms and formulas at a width."""

import itertools
import random
import unittest

from beatwires.planerrors import BadTerm, BadWidth
from beatwires.wideterms import holds_at, word_of
from tests import termdice

X, Y = ("name", "x"), ("name", "y")
ONE = ("number", 1)
WIDTHS = (1, 2, 3, 60, 200)

BAD_TERMS = (
    None, 5, "x", True, [], (), ("name",), ("x",), ("name", "x", "y"), ["name", "x"], ("name", 5), ("name", None), ("name", ""),
    ("name", "abcdefghi"), ("name", "X"), ("name", "a1"), ("name", "a_b"), ("name", ("x",)), (5, X), (None, "x"), (("name",), "x"),
    ("number",), ("number", 1001), ("number", -1001), ("number", True), ("number", False), ("number", "1"), ("number", None),
    ("number", 1, 1), ("number", (1,)), ["number", 1], ("plus", X, Y), ("equal", X, Y), ("not", X), ("and", (X, Y)),
    ("*", X, Y), ("<<", X, Y), ("+", X), ("+", X, Y, X), ("+", (X, Y)), ("+",), ["+", X, Y], ("+", X, None), ("+", None, X),
    ("+", X, ["name", "y"]), ("+", X, ("equal", X, Y)), ("-", X), ("-", X, 1), ("&", X), ("|", X, X, X), ("^", 1, X),
    ("~",), ("~", X, Y), ("~", None), ("~", ("~", ("~", 5))), ("times", X), ("times", X, 3), ("times", 31, X), ("times", -31, X),
    ("times", True, X), ("times", "3", X), ("times", 3, X, X), ("times", 3, 3), ("times", None, X), ("up", 7, X), ("up", -1, X),
    ("up", True, X), ("up", False, X), ("up", None, X), ("up", X, 1), ("up", 1), ("up", 1, X, X), ("up", 1, 5), {"name": "x"},
    ("number", 10 ** 30), ("times", 10 ** 30, X), ("up", 10 ** 30, X))
BAD_FORMULAS = (
    None, 5, "x", True, [], (), X, ONE, ("+", X, Y), ("~", X), ("equal",), ("equal", X), ("equal", X, Y, X), ("equal", (X, Y)),
    ["equal", X, Y], ("less", X, None), ("less", 1, X), ("below", X, [*Y]), ("below", ("equal", X, Y), X), ("above", X, Y),
    ("not",), ("not", X), ("not", ("equal", X, Y), X), ("not", (("equal", X, Y),)), ("and",), ("and", [("equal", X, Y)]),
    ("and", ("equal", X, Y)), ("and", X), ("and", (X,)), ("and", None), ("or", [()]), ("or", (None,)), ("or", ((),)),
    ("or", (("equal", X, Y),), ()), ("xor", (("equal", X, Y),)), (None, X, Y), (5, X, Y), ("equal", X, ("number", True)),
    ("not", ["equal", X, Y]), ("name", "x"), ("and", {("equal", X, Y): 1}), ("and", "xy"), ("or", ""))


def nested(kind, many, inner=X):
    """A term nested so many times."""
    for _ in range(many):
        inner = (kind, inner)
    return inner


class TestTerms(unittest.TestCase):
    def test_each_kind(self):
        for width in WIDTHS:
            full = 2 ** width - 1
            values = {"x": full // 3, "y": 1}
            for term, told in ((X, full // 3), (Y, 1), (("number", 1000), 1000), (("number", -1000), -1000), (("number", -1), full),
                               (("number", 0), 0), (("+", X, Y), full // 3 + 1), (("-", Y, X), 1 - full // 3),
                               (("-", ("number", 0), Y), full), (("times", 30, X), 30 * (full // 3)),
                               (("times", -30, X), -30 * (full // 3)), (("times", 0, X), 0), (("times", -1, Y), full),
                               (("up", 0, X), full // 3), (("up", 6, Y), 64), (("up", 1, X), full // 3 * 2),
                               (("&", X, Y), full // 3 & 1), (("|", X, Y), full // 3 | 1), (("^", X, Y), full // 3 ^ 1),
                               (("~", Y), full - 1), (("~", ("~", X)), full // 3)):
                self.assertEqual(word_of(term, width, values), told % 2 ** width, (term, width))

    def test_comparing(self):
        for width in (2, 3, 60, 200):
            high = 2 ** (width - 1)
            for one, other, kinds in ((0, 0, ["equal"]), (0, 1, ["less", "below"]), (1, 0, []), (high, 0, ["below"]),
                                      (0, high, ["less"]), (high, high, ["equal"]), (high - 1, high, ["less"]),
                                      (high, high - 1, ["below"]), (high, high + 1, ["less", "below"])):
                for kind in ("equal", "less", "below"):
                    self.assertIs(holds_at((kind, X, Y), width, {"x": one, "y": other}), kind in kinds)
        for one, other, kinds in ((0, 1, ["less"]), (1, 0, ["below"]), (1, 1, ["equal"])):
            for kind in ("equal", "less", "below"):
                self.assertIs(holds_at((kind, X, Y), 1, {"x": one, "y": other}), kind in kinds)

    def test_joining(self):
        yes, no = ("equal", X, X), ("less", X, X)
        for formula, told in ((("and", ()), True), (("or", ()), False), (("and", (yes,)), True), (("or", (no,)), False),
                              (("or", (no, yes)), True), (("and", (no, yes)), False), (("not", yes), False),
                              (("not", ("or", ())), True), (("and", (("or", ()), yes)), False), (("or", (("and", ()),)), True),
                              (("and", (yes,) * 5), True)):
            for width in WIDTHS:
                self.assertIs(holds_at(formula, width, {"x": 0}), told)
        self.assertIs(holds_at(("and", ()), 1, {}), True)

    def test_by_chance(self):
        dice = random.Random(44)
        for _ in range(1500):
            width = dice.choice([*WIDTHS, dice.randint(1, 200)])
            term, formula = termdice.term(dice, dice.randint(1, 20)), termdice.formula(dice, dice.randint(3, 20))
            values = {name: dice.choice([dice.randrange(2 ** width), 0, 2 ** width - 1]) for name in "xyz"}
            self.assertEqual(word_of(term, width, values), termdice.word(term, width, values))
            self.assertIs(holds_at(formula, width, values), termdice.truth(formula, width, values))

    def test_all_small_values(self):
        for width in (1, 2, 3):
            for one, other in itertools.product(range(2 ** width), repeat=2):
                values = {"x": one, "y": other}
                for kind in ("+", "-", "&", "|", "^"):
                    self.assertEqual(word_of((kind, X, Y), width, values), termdice.word((kind, X, Y), width, values))
                for number in range(-30, 31):
                    self.assertEqual(word_of(("times", number, X), width, values), number * one % 2 ** width)
                for number in range(7):
                    self.assertEqual(word_of(("up", number, X), width, values), one * 2 ** number % 2 ** width)
        for number in range(-1000, 1001):
            self.assertEqual(word_of(("number", number), 5, {}), number % 32)


class TestErrors(unittest.TestCase):
    def test_what_is_no_term(self):
        for term in BAD_TERMS:
            self.assertRaises(BadTerm, word_of, term, 3, {"x": 1, "y": 1})
            self.assertRaises(BadTerm, word_of, ("+", X, term), 3, {"x": 1, "y": 1})
            self.assertRaises(BadTerm, holds_at, ("equal", term, X), 3, {"x": 1, "y": 1})
            if term != ("equal", X, Y):
                self.assertRaises(BadTerm, holds_at, term, 3, {"x": 1, "y": 1})
        for name in ("a", "abcdefgh", "name", "x"):
            self.assertEqual(word_of(("name", name), 3, {name: 5}), 5)

    def test_what_is_no_formula(self):
        for formula in BAD_FORMULAS:
            self.assertRaises(BadTerm, holds_at, formula, 3, {"x": 1, "y": 1})
            self.assertRaises(BadTerm, holds_at, ("and", (("equal", X, Y), formula)), 3, {"x": 1, "y": 1})
            self.assertRaises(BadTerm, holds_at, ("not", formula), 3, {"x": 1, "y": 1})
        self.assertRaises(BadTerm, word_of, ("equal", X, Y), 3, {"x": 1, "y": 1})

    def test_many_parts(self):
        for formula, told in ((("equal", nested("~", 37), X), True), (("equal", nested("~", 38), X), False),
                              (("equal", X, nested("~", 38)), False), (("and", (("equal", X, X),) * 13), True),
                              (("and", (("equal", X, X),) * 12 + (("or", ()),) * 3), True),
                              (("and", (("equal", X, X),) * 12 + (("or", ()),) * 4), False),
                              (nested("not", 37, ("equal", X, X)), True), (nested("not", 38, ("equal", X, X)), False),
                              (nested("not", 5000, ("equal", X, X)), False), (("or", (("and", ()),) * 39), True),
                              (("or", (("and", ()),) * 40), False)):
            if told:
                self.assertIs(holds_at(formula, 2, {"x": 1}), termdice.truth(formula, 2, {"x": 1}))
            else:
                self.assertRaises(BadTerm, holds_at, formula, 2, {"x": 1})
        # How many parts a term by itself has is not told.
        self.assertEqual(word_of(nested("~", 61), 2, {"x": 1}), 2)

    def test_widths(self):
        for width in (0, -1, 201, 10 ** 9, True, False, None, "3", (3,), [3]):
            self.assertRaises(BadWidth, word_of, X, width, {"x": 0})
            self.assertRaises(BadWidth, holds_at, ("equal", X, Y), width, {"x": 0, "y": 0})
            # A width that is none is told ahead of values that are none, behind terms and formulas.
            self.assertRaises(BadWidth, word_of, X, width, None)
            self.assertRaises(BadWidth, holds_at, ("equal", X, Y), width, {})
            self.assertRaises(BadTerm, word_of, ("name", "X"), width, None)
            self.assertRaises(BadTerm, holds_at, X, width, None)

    def test_values(self):
        for values in (None, 5, [], ("x",), "x", {}, {"y": 1}, {"x": -1}, {"x": 8}, {"x": True}, {"x": None}, {"x": "1"},
                       {"x": (1,)}, {"y": 1, "z": 1}, {"X": 1}):
            self.assertRaises(BadTerm, word_of, X, 3, values)
            self.assertRaises(BadTerm, holds_at, ("equal", X, ONE), 3, values)
        for values in ({"x": 7}, {"x": 0, "y": 9}, {"x": 0, "y": None, 5: 6}):
            before = dict(values)
            self.assertEqual(word_of(X, 3, values), values["x"])
            self.assertIs(holds_at(("equal", X, ONE), 3, values), False)
            self.assertEqual(values, before)
        self.assertRaises(BadTerm, word_of, ("+", X, Y), 3, {"x": 7})
        self.assertEqual(word_of(ONE, 3, {}), 1)
        self.assertRaises(BadTerm, word_of, ONE, 3, None)


if __name__ == "__main__":
    unittest.main()
