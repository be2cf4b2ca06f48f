"""[3]: formulas and Wires."""

import itertools
import unittest

from beatwires.errors import BadFormula
from beatwires.formulas import Wire, bit_at, holds

A, B, C = ("name", "a"), ("name", "b"), ("name", "c")


def nested(deep):
    told = A
    for _ in range(deep - 1):
        told = ("not", told)
    return told


def of_parts(many):
    """An or of this many parts in all."""
    return ("or", (A,) * (many - 1))


class Refusing(unittest.TestCase):
    def refused(self, name, asked, *told, **more):
        with self.assertRaises(BadFormula) as caught:
            asked(*told, **more)
        self.assertEqual(caught.exception.name, name)


NO_FORMULAS = (
    None, 5, "a", [], (), ("name",), ("name", "A"), ("name", ""), ("name", "0"), ("name", "a" * 25), ("name", 5),
    ("name", "a", "b"), ["name", "a"], ("bit", 2), ("bit", -1), ("bit", True), ("bit", False), ("bit", "1"), ("bit",),
    ("not",), ("not", "a"), ("not", (A,)), ("not", A, B), ["not", A], ("and",), ("and", A, B), ("and", (A,)),
    ("and", ()), ("or", (A,)), ("or", [A, B]), ("xor", (A,)), ("xor", [A, B]), ("and", [A, B]), ("and", (A, "b")),
    ("and", (A, ["name", "b"])), ("pick", A, B), ("pick", A, B, C, A), ("pick", (A, B, C)), ("pick", A, B, "c"),
    ("nand", (A, B)), ("xnor", (A, B)), (A, B), (["and"], (A, B)), (1, A), ("and", (A, ("or", (B,)))),
    ("not", ("not", ("bit", True))), ("bit", "a"), ("name", 1), ("what", "a"), ("what", 1), ("", A), ("not", 1),
    (None, "a"), (1, 1), "ab", "name", b"ab", {"name": "a"},
)


class TestHolds(Refusing):
    def test_each_kind(self):
        for a, b, c in itertools.product((0, 1), repeat=3):
            bits = {"a": a, "b": b, "c": c}
            for formula, bit in ((A, a), (("bit", 0), 0), (("bit", 1), 1), (("not", A), 1 - a),
                                 (("and", (A, B)), a & b), (("and", (A, B, C)), a & b & c), (("or", (A, B)), a | b),
                                 (("or", (A, B, C)), a | b | c), (("xor", (A, B)), a ^ b),
                                 (("xor", (A, B, C)), a ^ b ^ c), (("pick", A, B, C), b if a else c),
                                 (("pick", ("bit", 1), ("not", ("xor", (A, A, A))), C), 1 - a)):
                self.assertEqual(holds(formula, bits), bit, (formula, bits))
                self.assertIs(type(holds(formula, bits)), int)

    def test_names_and_more_bits(self):
        name = "a" + "._9z" * 5 + "bcd"
        self.assertEqual(holds(("name", name), {name: 1, "x": 0, "y": 7}), 1)
        self.assertEqual(holds(("bit", 1), {}), 1)

    def test_no_formula(self):
        for bad in NO_FORMULAS:
            self.refused(None, holds, bad, {"a": 0, "b": 1, "c": 1})
            self.refused(None, holds, bad, {})

    def test_limits(self):
        self.assertEqual(holds(nested(40), {"a": 1}), 0)
        self.refused(None, holds, nested(41), {"a": 1})
        self.refused(None, holds, nested(100000), {"a": 1})
        self.assertEqual(holds(of_parts(400), {"a": 1}), 1)
        self.refused(None, holds, of_parts(401), {"a": 1})
        wide = ("xor", (of_parts(200), of_parts(199)))
        self.assertEqual(holds(wide, {"a": 1}), 0)
        self.refused(None, holds, ("xor", (of_parts(200), of_parts(200))), {"a": 1})
        doubled = A
        for _ in range(35):
            doubled = ("and", (doubled, doubled))
        self.refused(None, holds, doubled, {"a": 1})

    def test_the_first_name_that_bits_lacks(self):
        told = ("or", (("name", "z"), ("name", "y"), ("name", "a"), ("not", ("name", "x"))))
        self.refused("a", holds, told, {})
        self.refused("x", holds, told, {"a": 0})
        self.refused("x", holds, told, {"a": 1, "z": 1})
        self.refused("z", holds, told, {"a": 1, "x": 1, "y": 1, "b": 0})
        self.refused(None, holds, ("or", (("name", "z"), 5)), {})
        self.refused("z", holds, ("pick", ("bit", 0), ("name", "z"), A), {"a": 1})
        for bits in ({"a": True}, {"a": False}, {"a": 2}, {"a": None}, None, 5, [("a", 1)]):
            self.refused("a", holds, A, bits)

    def test_bits_stay(self):
        bits = {"a": 1}
        holds(("not", A), bits)
        self.assertEqual(bits, {"a": 1})


class TestWire(Refusing):
    def test_things(self):
        self.assertEqual(Wire("a").told, A)
        self.assertEqual(Wire(1).told, ("bit", 1))
        self.assertEqual(Wire(0).told, ("bit", 0))
        self.assertEqual(Wire(("xor", (A, B))).told, ("xor", (A, B)))
        self.assertEqual(Wire(Wire("a")).told, A)
        for bad in NO_FORMULAS:
            if bad not in ("a", "ab", "name"):
                self.refused(None, Wire, bad)
        for bad in (True, False, 2, -1, "A", "", "1", "a" * 25, [A], {"a": 1}):
            self.refused(None, Wire, bad)
        self.refused(None, Wire, nested(41))
        self.refused(None, Wire, of_parts(401))

    def test_signs_in_either_order(self):
        wire = Wire("a")
        for other, told in (("b", B), (1, ("bit", 1)), (("not", B), ("not", B)), (Wire("b"), B)):
            for kind, one, two in (("and", wire & other, other & wire), ("or", wire | other, other | wire),
                                   ("xor", wire ^ other, other ^ wire)):
                self.assertIsInstance(one, Wire)
                self.assertEqual(one.told, (kind, (A, told)))
                self.assertEqual(two.told, (kind, (told, A)))

    def test_formulas_of_the_kind_stand_in_its_place(self):
        for kind in ("and", "or", "xor"):
            def put(one, other):
                return {"and": lambda: one & other, "or": lambda: one | other, "xor": lambda: one ^ other}[kind]()
            self.assertEqual(put(put(Wire("a"), "b"), "c").told, (kind, (A, B, C)))
            self.assertEqual(put("a", put(Wire("b"), "c")).told, (kind, (A, B, C)))
            self.assertEqual(put((kind, (A, B)), Wire("c")).told, (kind, (A, B, C)))
            self.assertEqual(put(put(Wire("a"), "b"), put(Wire("c"), "a")).told, (kind, (A, B, C, A)))
            for other in ("and", "or", "xor"):
                if other != kind:
                    self.assertEqual(put(Wire((other, (A, B))), "c").told, (kind, ((other, (A, B)), C)))
            deep = (kind, (A, (kind, (B, C))))
            self.assertEqual(put(Wire(deep), "a").told, (kind, (A, (kind, (B, C)), A)))
            self.assertEqual(put(Wire(("not", (kind, (A, B)))), "c").told, (kind, (("not", (kind, (A, B))), C)))

    def test_not_follows_and_pick(self):
        self.assertEqual((~Wire("a")).told, ("not", A))
        self.assertEqual((~~Wire("a")).told, ("not", ("not", A)))
        self.assertEqual((Wire("a") >> "b").told, ("or", (("not", A), B)))
        self.assertEqual((Wire("a") >> (Wire("b") | "c")).told, ("or", (("not", A), B, C)))
        self.assertEqual((Wire("a") >> 1).told, (~Wire("a") | 1).told)
        self.assertEqual(Wire("a")("b").told, ("pick", A, B, ("bit", 0)))
        self.assertEqual(Wire("a")("b", "c").told, ("pick", A, B, C))
        self.assertEqual(Wire("a")(1, other=Wire("c")).told, ("pick", A, ("bit", 1), C))
        self.assertEqual(Wire("a")(("not", B), 0).told, ("pick", A, ("not", B), ("bit", 0)))

    def test_in(self):
        wire = Wire("a")("b", ~Wire("c") ^ 1)
        self.assertEqual([name in wire for name in ("a", "b", "c", "d", "1", "not", 1, None, ["a"], A)],
                         [True] * 3 + [False] * 7)
        self.assertFalse("a" in Wire(1))

    def test_equality(self):
        self.assertTrue(Wire("a") & "b" == Wire(("and", (A, B))))
        self.assertTrue(Wire("a") == Wire("a"))
        self.assertFalse(Wire("a") != Wire("a"))
        self.assertFalse(Wire("a") & "b" == Wire("b") & "a")
        self.assertFalse(Wire("a") == "a")
        self.assertFalse(Wire("a") == A)

    def test_signs_and_calls_that_are_refused(self):
        wire = Wire("a")
        for bad in (2, True, None, "A", [], ["a"], ("name",), ("and", [A, B]), {"a": 1}, {1}, 1.5, b"a"):
            for asked in (lambda: wire & bad, lambda: bad & wire, lambda: wire | bad, lambda: bad | wire,
                          lambda: wire ^ bad, lambda: bad ^ wire, lambda: wire >> bad, lambda: wire(bad),
                          lambda: wire("a", bad), lambda: wire(bad, "a")):
                self.refused(None, asked)

    def test_too_large(self):
        deep = Wire(nested(40))
        for asked in (lambda: ~deep, lambda: deep & "a", lambda: "a" | deep, lambda: deep ^ 1, lambda: deep >> "a",
                      lambda: deep("a"), lambda: Wire("a")("a", deep)):
            self.refused(None, asked)
        self.assertEqual((~Wire(nested(39))).told, nested(40))
        wide = Wire(of_parts(399))
        self.assertEqual((wide | "a").told, of_parts(400))
        for asked in (lambda: ~Wire(of_parts(400)), lambda: wide & "a", lambda: Wire(of_parts(400)) | "a",
                      lambda: wide >> "a", lambda: "a" ^ wide, lambda: wide("a")):
            self.refused(None, asked)
        grown = Wire(of_parts(397))("a", 0)
        self.assertEqual(bit_at(grown, a=1), 1)
        self.assertEqual((Wire(of_parts(200)) | Wire(of_parts(201))).told, of_parts(400))

    def test_bit_at(self):
        told = Wire("a") & "b" | ~Wire("c")
        for a, b, c in itertools.product((0, 1), repeat=3):
            self.assertEqual(bit_at(told, a=a, b=b, c=c), a & b | 1 - c)
        self.assertEqual(bit_at(Wire("x.y") ^ 1, **{"x.y": 1, "z": 1}), 0)
        self.refused("a", bit_at, told)
        self.refused("b", bit_at, told, a=1, c=1)
        self.refused("b", bit_at, told, a=1, b=2, c=1)
        self.refused(None, bit_at, 5, a=1)
        self.refused(None, bit_at, "a", a=1)


if __name__ == "__main__":
    unittest.main()
