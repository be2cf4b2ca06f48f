"""[12]: what always holds, and nets that are always alike."""

import random
import time
import unittest

from beatwires.always import Broken, Holds, judge_always, twins
from beatwires.circuits import Circuit
from beatwires.diagrams import Diagram
from beatwires.errors import BadCircuit, BadFormula, BadRow
from beatwires.formulas import Wire, holds
from tests import circuitdice

BARE = Circuit((), (), (), ())
# Just one of r, s and t is 1; which one goes on where i is 1.
RING = Circuit(("i",), (("r", 1, "a"), ("s", 0, "b"), ("t", 0, "c")),
               (("a", "pick", ("i", "t", "r")), ("b", "pick", ("i", "r", "s")), ("c", "pick", ("i", "s", "t"))), ())
ONE = ("xor", (("name", "r"), ("name", "s"), ("name", "t")))


def no(formula):
    return ("not", formula)


class TestAlways(unittest.TestCase):
    def test_what_the_circuit_is(self):
        for formula in (("bit", 1), ONE, no(("and", (("name", "r"), ("name", "s")))),
                        ("or", (no(("name", "a")), ("name", "r"), ("name", "t"))),
                        ("or", (("name", "i"), no(("xor", (("name", "a"), ("name", "r"))))))):
            found = judge_always(RING, formula)
            self.assertIsInstance(found, Holds)
            self.assertIs(bool(found), True)
            self.assertEqual(found.closed.order, ("r", "s", "t"))
            self.assertTrue(found.shows(RING, formula))

    def test_as_few_rows_as_can_be(self):
        for formula, many in ((("bit", 0), 1), (("name", "r"), 2), (no(("name", "t")), 3), (no(("name", "b")), 1),
                              (no(("name", "c")), 2), (("name", "i"), 1)):
            found = judge_always(RING, formula)
            self.assertIsInstance(found, Broken)
            self.assertIs(bool(found), False)
            self.assertEqual(len(found.rows), many)
            self.assertTrue(found.shows(RING, formula))

    def test_without_anything(self):
        self.assertTrue(judge_always(BARE, ("bit", 1)).shows(BARE, ("bit", 1)))
        self.assertEqual(judge_always(BARE, ("bit", 0)).rows, [{}])
        self.assertEqual(judge_always(BARE, ("bit", 1)).closed, Diagram((), (), -2))

    def test_against_trying_all_states(self):
        dice = random.Random(13)
        seen = set()
        for _ in range(150):
            one = circuitdice.small(dice, 0, 4)
            names = [*one.inputs, *[told[0] for told in one.registers + one.gates]]
            some = [("name", dice.choice(names)) for _ in range(3)]
            formula = dice.choice([("or", tuple(some)), some[0], no(some[1]), ("or", (some[0], no(("and", tuple(some)))))])
            fewest = None
            for at, layer in enumerate(circuitdice.state_layers(one)):
                rows = circuitdice.all_rows(one)
                if fewest is None and any(not holds(formula, one.values(state, row)) for state in layer for row in rows):
                    fewest = at + 1
            found = judge_always(one, formula)
            self.assertTrue(found.shows(one, formula))
            self.assertEqual(fewest, None if found else len(found.rows))
            seen.add(fewest)
        self.assertTrue({None, 1, 2, 3} <= seen)

    def test_sets_and_rows_that_do_not_show(self):
        right = judge_always(RING, ONE).closed
        order = ("r", "s", "t")
        names = [("name", name) for name in order]
        self.assertEqual(right.many(), 3)
        self.assertTrue(Holds(Diagram.of(ONE, order)).shows(RING, ONE), "larger, and still closed")
        self.assertFalse(Holds(Diagram(order, (), -2)).shows(RING, ONE), "it does not hold there")
        self.assertFalse(Holds(Diagram(order, (), -1)).shows(RING, ONE), "empty")
        self.assertFalse(Holds(Diagram.of(("and", tuple(names)), order)).shows(RING, ONE), "without the starts")
        first = ("and", (names[0], no(names[1]), no(names[2])))
        self.assertFalse(Holds(Diagram.of(first, order)).shows(RING, ONE), "not closed")
        self.assertFalse(Holds(Diagram.of(ONE, order[::-1])).shows(RING, ONE), "another order")
        self.assertFalse(Holds(Diagram(("x", "y", "z"), right.rows, right.root)).shows(RING, ONE))
        self.assertFalse(Holds(Diagram.of(("or", (ONE, names[0])), (*order, "u"))).shows(RING, ONE))
        self.assertFalse(Holds(right).shows(RING, ("name", "r")))
        stay, go = {"i": 0}, {"i": 1}
        for rows, told in (([go, stay], True), ([stay, go, go], True), ([], False), ([go], False), ([stay] * 3, False),
                           ([go, go, go, go], False), ([go, go], True)):
            self.assertEqual(Broken(rows).shows(RING, ("name", "r")), told)
        for row in ({}, {"i": 2}, {"i": True}, {"i": 1, "j": 1}, None):
            self.assertRaises(BadRow, Broken([row, stay]).shows, RING, ("name", "r"))
            self.assertRaises(BadRow, Broken([row]).shows, RING, ("bit", 1))

    def test_errors_in_their_order(self):
        for call in (judge_always, Holds(Diagram((), (), -2)).shows, Broken([5]).shows):
            with self.assertRaises(BadCircuit) as caught:
                call("c", "f")
            self.assertIsNone(caught.exception.name)
            for formula, name in (("r", None), (None, None), (("and", (("name", "x"),)), None), (Wire("r"), None),
                                  (("name", "x"), "x"), (("or", (("name", "z"), ("name", "r"), ("name", "y"))), "y"),
                                  (("and", (("name", "A"), ("name", "x"))), None)):
                with self.assertRaises(BadFormula) as caught:
                    call(RING, formula)
                self.assertEqual(caught.exception.name, name)
        shown = Circuit(("i",), (), (), (("o", "i"),))
        self.assertRaises(BadFormula, judge_always, shown, ("name", "o"))
        with self.assertRaises(BadCircuit) as caught:
            twins(None)
        self.assertIsNone(caught.exception.name)

    def test_copies_and_equality(self):
        rows = ({"i": 1}, {"i": 0})
        found = Broken(rows)
        self.assertEqual(found.rows, list(rows))
        self.assertEqual(found, Broken(list(rows)))
        found.rows[0]["i"] = 0
        self.assertEqual(rows, ({"i": 1}, {"i": 0}))
        self.assertNotEqual(found, Broken(rows))
        self.assertEqual(Holds(Diagram((), (), -2)), Holds(Diagram((), (), -2)))
        self.assertNotEqual(Holds(Diagram((), (), -2)), Holds(Diagram((), (), -1)))
        self.assertNotEqual(Holds(Diagram((), (), -2)), Broken([]))
        self.assertNotEqual(Broken([]), Holds(Diagram((), (), -2)))

    def test_sixteen_registers_and_eight_inputs(self):
        since = time.perf_counter()
        ins = tuple(f"i{at}" for at in range(8))
        gates = [(f"g{at}", "xor", (f"r{at}", f"i{at % 8}", f"r{(7 * at + 1) % 16}", f"n{at}")) for at in range(1, 16)]
        gates += [(f"n{at}", "and", (f"r{(3 * at) % 16}", f"i{(at + 3) % 8}")) for at in range(1, 16)]
        held = (("r0", 1, "r0"), *[(f"r{at}", 0, f"g{at}") for at in range(1, 16)])
        one = Circuit(ins, held, tuple(gates), ())
        found = judge_always(one, ("name", "r0"))
        self.assertEqual(found.closed.many(), 1 << 15)
        self.assertTrue(found.shows(one, ("name", "r0")))
        late = [("r0", 0, "g")] + [(f"r{at}", 0, f"r{at - 1}") for at in range(1, 15)] + [("s", 0, "n")]
        line = Circuit(ins, tuple(late), (("g", "or", ins), ("h", "not", ("r3",)), ("n", "and", ("r13", "r13"))), ())
        self.assertEqual(twins(line), [
            [("r3", False), ("h", True)], [("r13", False), ("n", False)], [("r14", False), ("s", False)]])
        self.assertLess(time.perf_counter() - since, 60)


class TestTwins(unittest.TestCase):
    def test_always_opposite_and_the_net_0(self):
        one = Circuit(("i",), (("r", 0, "i"), ("s", 1, "n"), ("t", 1, "t"), ("u", 0, "z")),
                      (("n", "not", ("i",)), ("m", "not", ("r",)), ("z", "and", ("r", "s")), ("e", "or", ("m", "r")),
                       ("h", "xor", ("i", "0"))), ())
        self.assertEqual(twins(one), [
            [("0", False), ("t", True), ("u", False), ("z", False), ("e", True)],
            [("r", False), ("s", True), ("m", True)], [("n", False), ("h", True)]])

    def test_none_and_without_registers(self):
        self.assertEqual(twins(BARE), [])
        self.assertEqual(twins(Circuit(("i",), (("r", 0, "i"),), (("g", "not", ("i",)),), ())), [])
        one = Circuit((), (), (("g", "not", ("0",)), ("h", "not", ("1",))), ())
        self.assertEqual(twins(one), [[("0", False), ("g", True), ("h", False)]])
        same = Circuit(("i", "j"), (), (("g", "and", ("i", "j")), ("h", "and", ("j", "i"))), ())
        self.assertEqual(twins(same), [[("g", False), ("h", False)]])
        self.assertEqual(twins(RING), [])

    def test_against_trying_all_states(self):
        dice = random.Random(14)
        seen = set()
        for _ in range(120):
            one = circuitdice.small(dice, 0, 4)
            if dice.random() < 0.5:
                one = circuitdice.circuit(dice, dice.randint(0, 4), dice.randint(0, 3), 9, 1)
            names = ["0", *[told[0] for told in one.registers + one.gates]]
            states = set().union(*circuitdice.state_layers(one))
            told = [one.values(state, row) for state in states for row in circuitdice.all_rows(one)]
            columns = {name: tuple(bits[name] for bits in told) for name in names}
            wanted, done = [], set()
            for name in names:
                turned = tuple(1 - bit for bit in columns[name])
                like = [(other, columns[other] == turned) for other in names
                        if columns[other] in (columns[name], turned) and other not in done]
                done |= {other for other, _ in like}
                if len(like) > 1:
                    wanted.append(like)
            self.assertEqual(twins(one), wanted)
            seen.add(len(wanted))
        self.assertTrue({1, 2, 3} <= seen, seen)


if __name__ == "__main__":
    unittest.main()
