"""[4]: diagrams."""

import itertools
import random
import unittest

from beatwires.diagrams import Diagram
from beatwires.errors import BadDiagram, BadFormula, BadOrder
from beatwires.formulas import holds

A, B, C = ("name", "a"), ("name", "b"), ("name", "c")


def all_dicts(order):
    return [dict(zip(order, bits)) for bits in itertools.product((0, 1), repeat=len(order))]


def random_formula(dice, names, deep):
    kind = dice.choice(("name", "name", "bit", "not", "and", "or", "xor", "pick")) if deep else "name"
    if kind == "name":
        return ("name", dice.choice(names))
    if kind == "bit":
        return ("bit", dice.randrange(2))
    if kind == "not":
        return ("not", random_formula(dice, names, deep - 1))
    if kind == "pick":
        return ("pick",) + tuple(random_formula(dice, names, deep - 1) for _ in range(3))
    return (kind, tuple(random_formula(dice, names, deep - 1) for _ in range(dice.randrange(2, 4))))


def rows_of(formula, order):
    """Rows and root as [4] tells them, built from the table of the function."""
    rows = []

    def end_of(table, place):
        if not any(table):
            return -1
        if all(table):
            return -2
        half = len(table) // 2
        if table[:half] == table[half:]:
            return end_of(table[:half], place + 1)
        low = end_of(table[:half], place + 1)
        high = end_of(table[half:], place + 1)
        row = (place, low, high)
        if row not in rows:
            rows.append(row)
        return rows.index(row)

    root = end_of([holds(formula, bits) for bits in all_dicts(order)], 0)
    return tuple(rows), root


class TestOf(unittest.TestCase):
    def test_the_one_diagram(self):
        dice = random.Random(4)
        for at in range(400):
            order = tuple(dice.sample(("a", "b", "c", "d", "e.1", "f_"), dice.randrange(1, 7)))
            formula = random_formula(dice, order, 4)
            told = Diagram.of(formula, order)
            self.assertEqual((told.order, told.rows, told.root), (order,) + rows_of(formula, order))
            wanted = [bits for bits in all_dicts(order) if holds(formula, bits)]
            self.assertEqual(list(told.dicts()), wanted)
            self.assertEqual(told.many(), len(wanted))
            self.assertEqual(bool(told), bool(wanted))
            self.assertEqual(len(told), len(told.rows))
            for bits in all_dicts(order):
                self.assertIs(told(bits), bool(holds(formula, bits)))
            self.assertEqual(Diagram(told.order, told.rows, told.root), told)

    def test_equal_meanings(self):
        order = ("a", "b", "c")
        self.assertTrue(Diagram.of(("not", ("and", (A, B))), order) == Diagram.of(("or", (("not", B), ("not", A))), order))
        self.assertTrue(Diagram.of(("pick", A, B, C), order)
                        == Diagram.of(("or", (("and", (A, B)), ("and", (("not", A), C)))), order))
        self.assertFalse(Diagram.of(A, order) == Diagram.of(B, order))
        self.assertFalse(Diagram.of(A, ("a", "b")) == Diagram.of(A, ("a", "c")))
        self.assertFalse(Diagram.of(A, ("a",)) == Diagram.of(("not", A), ("a",)))
        self.assertFalse(Diagram.of(("bit", 0), ("a",)) == Diagram.of(("bit", 1), ("a",)))
        self.assertFalse(Diagram.of(A, ("a",)) != Diagram.of(A, ("a",)))
        self.assertFalse(Diagram.of(A, ("a",)) == (("a",), ((0, -1, -2),), 0))

    def test_the_example(self):
        told = Diagram.of(("or", (A, ("not", B))), ("a", "b"))
        self.assertEqual([told.rows, told.root, told.many()], [((1, -2, -1), (0, 0, -2)), 1, 3])

    def test_constants_and_no_names(self):
        for bit, root in ((0, -1), (1, -2)):
            told = Diagram.of(("bit", bit), ())
            self.assertEqual((told.rows, told.root, told.many(), len(told)), ((), root, bit, 0))
            self.assertEqual(list(told.dicts()), [{}] * bit)
            self.assertIs(told({}), bool(bit))
            self.assertIs(bool(told), bool(bit))
            self.assertEqual(Diagram.of(("xor", (A, A, ("bit", bit))), ("a",)).root, root)

    def test_many_names(self):
        order = tuple(f"n{at}" for at in range(120))
        told = Diagram.of(("xor", tuple(("name", name) for name in order)), order)
        self.assertEqual(len(told), 239)
        self.assertEqual(told.many(), 2 ** 119)
        first = [bits for bits, _ in zip(told.dicts(), range(3))]
        self.assertEqual([[name for name in order if bits[name]] for bits in first],
                         [["n119"], ["n118"], ["n117"]])
        self.assertEqual(first[0]["n0"], 0)
        self.assertEqual(Diagram.of(("name", "n60"), order).many(), 2 ** 119)
        wide = Diagram.of(("and", tuple(("name", name) for name in order)), order)
        self.assertEqual((wide.many(), len(wide)), (1, 120))
        self.assertEqual(list(wide.dicts()), [{name: 1 for name in order}])

    def test_orders_that_are_none(self):
        long = "a" * 32
        self.assertEqual(Diagram.of(A, ("a", long)).order, ("a", long))
        for bad in (["a"], "a", None, ("a", "a"), ("a", "A"), ("a", 1), ("a", ""), ("a", long + "a"), ("a", "0"),
                    tuple(["a"] + [f"n{at}" for at in range(120)]), {"a": 1}, ("a", ["b"])):
            with self.assertRaises(BadOrder):
                Diagram.of(A, bad)
            with self.assertRaises(BadOrder):
                Diagram.of(5, bad)
            with self.assertRaises(BadOrder):
                Diagram(bad, (), 7)

    def test_bad_formulas(self):
        for formula, order, name in ((5, ("a",), None), ("a", ("a",), None), (("and", [A, A]), ("a",), None),
                                     (("bit", True), (), None), (("and", (A, B)), ("a",), "b"),
                                     (("and", (B, A)), (), "a"), (("and", (A, 5)), (), None),
                                     (("or", (A, C, B)), ("a", "d"), "b")):
            with self.assertRaises(BadFormula) as caught:
                Diagram.of(formula, order)
            self.assertEqual(caught.exception.name, name)
        deep = A
        for _ in range(40):
            deep = ("not", deep)
        with self.assertRaises(BadFormula):
            Diagram.of(deep, ("a",))

    def test_large_ones(self):
        pairs = tuple(("and", (("name", f"a{at}"), ("name", f"b{at}"))) for at in range(13))
        order = tuple(f"a{at}" for at in range(13)) + tuple(f"b{at}" for at in range(13))
        self.assertEqual(Diagram.of(("or", pairs), order).many(), 4 ** 13 - 3 ** 13)


class TestDiagram(unittest.TestCase):
    def test_good(self):
        order = ("a", "b", "c")
        told = Diagram(order, ((2, -1, -2), (1, 0, -2), (0, 0, 1)), 2)
        self.assertEqual(told, Diagram.of(("or", (("and", (A, B)), C)), order))
        self.assertEqual([told.order, told.rows, told.root], [order, ((2, -1, -2), (1, 0, -2), (0, 0, 1)), 2])

    def test_calls(self):
        told = Diagram.of(("and", (A, ("not", B))), ("a", "b"))
        self.assertIs(told({"a": 1, "b": 0, "c": 5, "x": None}), True)
        self.assertIs(told({"a": 1, "b": 1}), False)
        for bad in ({}, {"a": 0}, {"b": 0}, {"a": 0, "b": True}, {"a": 2, "b": 0}, {"a": False, "b": 0}, None,
                    [("a", 0), ("b", 0)], {"a": "1", "b": 0}, 5):
            with self.assertRaises(BadDiagram):
                told(bad)

    def test_dicts_are_new(self):
        told = Diagram.of(A, ("a",))
        first = list(told.dicts())
        first[0]["a"] = 9
        self.assertEqual(list(told.dicts()), [{"a": 1}])

    def test_rows_and_root_that_are_not_as_described(self):
        row = (1, -1, -2)
        for rows, root in (
                ([row], 0), ((list(row),), 0), (None, -1), ("", -1), ((row,), None), ((row,), True), ((row,), "0"),
                (((True, -1, -2),), 0), (((1, -1, True),), 0), (((1, False, -2),), 0), (((1.0, -1, -2),), 0),
                (((2, -1, -2),), 0), (((-1, -1, -2),), 0), (((None, -1, -2),), 0), (((1, -1),), 0), (((1, -1, -2, 0),), 0),
                (((1, -3, -2),), 0), (((1, 0, -2),), 0), (((1, -1, 1),), 0), (((1, 1, -1), row), 1),
                (((1, -1, -1),), 0), (((1, -2, -2),), 0), ((row, (0, 0, 0)), 1),
                (((0, -1, -2), (1, 0, -2)), 1), (((0, -1, -2), (0, 0, -2)), 1), ((row, (1, -2, 0)), 1),
                ((row, row, (0, 0, 1)), 2), ((row, row), 1),
                ((row,), -1), ((row,), -2), ((row,), 1), ((), 0), ((), -3), ((), 1), ((row,), -3),
                ((row, (1, -2, -1), (0, 0, -2)), 2), ((row, (0, 0, -2)), 0), ((row, (0, -1, -2)), 1),
                (((1, -2, -1), (1, -1, -2), (0, 1, 0)), 2)):
            with self.assertRaises(BadDiagram, msg=(rows, root)):
                Diagram(("a", "b"), rows, root)
        Diagram(("a", "b"), ((1, -1, -2), (1, -2, -1), (0, 0, 1)), 2)
        Diagram(("a", "b"), ((1, -2, -1), (1, -1, -2), (0, 0, 1)), 2)

    def test_rows_in_another_order(self):
        order = ("a", "b", "c", "d")
        formula = ("xor", (A, ("and", (B, C)), ("or", (C, ("name", "d")))))
        told = Diagram.of(formula, order)
        good = 0
        for places in itertools.permutations(range(len(told.rows))):
            moved = {old: new for new, old in enumerate(places)}
            moved.update({-1: -1, -2: -2})
            rows = tuple((told.rows[old][0], moved[told.rows[old][1]], moved[told.rows[old][2]]) for old in places)
            if list(places) == sorted(places):
                self.assertEqual(Diagram(order, rows, moved[told.root]), told)
                good += 1
                continue
            with self.assertRaises(BadDiagram):
                Diagram(order, rows, moved[told.root])
        self.assertEqual(good, 1)


if __name__ == "__main__":
    unittest.main()
