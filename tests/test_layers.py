"""[8]: the states that rows lead to."""

import random
import time
import unittest

from beatwires.circuits import Circuit, state_behind
from beatwires.diagrams import Diagram
from beatwires.errors import BadCircuit, BadRow
from beatwires.layers import Deepest, deepest, reached
from tests import circuitdice

BARE = Circuit((), (), (), ())
STAYS = Circuit(("i",), (("r", 1, "r"),), (), (("o", "r"),))


def counter(many):
    """A circuit that counts where go is 1, with so many bits."""
    gates, carry = [], "go"
    for at in range(many):
        gates += [(f"s{at}", "xor", (f"c{at}", carry)), (f"k{at}", "and", (f"c{at}", carry))]
        carry = f"k{at}"
    return Circuit(("go",), tuple((f"c{at}", 0, f"s{at}") for at in range(many)), tuple(gates), (("o", carry),))


class TestLayers(unittest.TestCase):
    def test_small_ones(self):
        self.assertEqual(reached(BARE), Diagram((), (), -2))
        self.assertEqual(deepest(BARE), Deepest(0, [], [Diagram((), (), -2)]))
        self.assertEqual(reached(STAYS), Diagram(("r",), ((0, -1, -2),), 0))
        self.assertEqual(deepest(STAYS), Deepest(0, (), (reached(STAYS),)))
        self.assertTrue(deepest(STAYS).shows(STAYS))

    def test_a_counter(self):
        one = counter(5)
        found = deepest(one)
        self.assertEqual(found.number, 31)
        self.assertEqual(found.rows, [{"go": 1}] * 31)
        self.assertEqual([layer.many() for layer in found.layers], [1] * 32)
        self.assertTrue(found.shows(one))
        self.assertEqual(reached(one), Diagram(tuple(f"c{at}" for at in range(5)), (), -2))

    def test_against_trying_all_rows(self):
        dice = random.Random(8)
        numbers = []
        for _ in range(120):
            one = circuitdice.small(dice, 0, 4)
            layers = circuitdice.state_layers(one)
            order = tuple(told[0] for told in one.registers)
            self.assertEqual(reached(one).order, order)
            self.assertEqual(circuitdice.states_of(reached(one)), set().union(*layers))
            found = deepest(one)
            self.assertEqual(found.number, len(layers) - 1)
            self.assertEqual([circuitdice.states_of(layer) for layer in found.layers], layers)
            self.assertEqual({layer.order for layer in found.layers}, {order})
            self.assertEqual(len(found.rows), found.number)
            self.assertIn(state_behind(one, found.rows), layers[-1])
            self.assertTrue(found.shows(one))
            numbers.append(found.number)
        self.assertTrue({0, 1, 2, 3} <= set(numbers))

    def test_sixteen_registers_and_eight_inputs(self):
        since = time.perf_counter()
        held = [(f"r{at}", 0, f"i{at}") for at in range(8)] + [(f"s{at}", 0, f"g{at}") for at in range(8)]
        gates = tuple((f"g{at}", "xor", (f"r{at}", f"s{(at + 1) % 8}")) for at in range(8))
        one = Circuit(tuple(f"i{at}" for at in range(8)), tuple(held), gates, ())
        found = deepest(one)
        self.assertEqual([found.number, found.layers[2].many()], [2, 65536 - 256])
        self.assertTrue(found.shows(one))
        self.assertEqual(reached(counter(16)).many(), 65536)
        found = deepest(counter(10))
        self.assertEqual(found.number, 1023)
        self.assertTrue(found.shows(counter(10)))
        half = Circuit(one.inputs, (("r0", 0, "r0"), *one.registers[1:]), gates, ())
        self.assertEqual(reached(half).many(), 1 << 15)
        self.assertLess(time.perf_counter() - since, 30)


class TestShowing(unittest.TestCase):
    def test_what_does_not_show(self):
        one = counter(2)
        right = deepest(one)
        for number in (-1, 0, 2, 4, 10**9):
            wrong = deepest(one)
            wrong.number = number
            self.assertFalse(wrong.shows(one))
        go, stop = {"go": 1}, {"go": 0}
        for rows in ([], [go] * 2, [go] * 4, [go, go, stop]):
            self.assertFalse(Deepest(3, rows, right.layers).shows(one))
        self.assertFalse(Deepest(2, [go] * 2, right.layers[:3]).shows(one))
        self.assertFalse(Deepest(4, [go] * 4, right.layers + right.layers[:1]).shows(one))
        self.assertFalse(Deepest(4, [go] * 4, right.layers + [Diagram(("c0", "c1"), (), -1)]).shows(one))
        self.assertFalse(Deepest(3, [go] * 3, right.layers[:3]).shows(one))
        self.assertFalse(Deepest(3, [go] * 3, []).shows(one))
        self.assertFalse(Deepest(-1, [], []).shows(one))
        for at in range(4):
            layers = list(right.layers)
            layers[at] = Diagram(("c0", "c1"), (), -2)
            self.assertFalse(Deepest(3, [go] * 3, layers).shows(one))
            layers[at] = Diagram(("c0",), (), -2)
            self.assertFalse(Deepest(3, [go] * 3, layers).shows(one))
        self.assertFalse(Deepest(3, [stop] + [go] * 3, right.layers).shows(one), "more rows than the number")
        self.assertFalse(Deepest(4, [stop] + [go] * 3, right.layers).shows(one), "fewer layers than the number asks")
        named = [Diagram(("x", "y"), layer.rows, layer.root) for layer in right.layers]
        self.assertFalse(Deepest(3, right.rows, named).shows(one))
        turned = [Diagram.of(("bit", 1), ("x",))] + right.layers[1:]
        self.assertFalse(Deepest(3, [go] * 3, turned).shows(one))

    def test_another_order_of_the_same_states(self):
        one = counter(2)
        right = deepest(one)
        named = [("not", ("name", "c0")), ("name", "c0")]
        other = [("not", ("name", "c1")), ("name", "c1")]
        layers = [Diagram.of(("and", (named[at & 1], other[at >> 1])), ("c1", "c0")) for at in range(4)]
        self.assertFalse(Deepest(3, right.rows, layers).shows(one))
        layers = [Diagram.of(("and", (named[at & 1], other[at >> 1])), ("c0", "c1")) for at in range(4)]
        self.assertTrue(Deepest(3, right.rows, layers).shows(one))

    def test_errors(self):
        for call in (reached, deepest, Deepest(0, [5], []).shows):
            for thing in (None, "c", 4):
                with self.assertRaises(BadCircuit) as caught:
                    call(thing)
                self.assertIsNone(caught.exception.name)
        right = deepest(counter(2))
        for row in ({}, {"go": 2}, {"go": True}, {"go": 1, "more": 0}, None):
            self.assertRaises(BadRow, Deepest(3, right.rows[:2] + [row], right.layers).shows, counter(2))
            self.assertRaises(BadRow, Deepest(3, right.rows + [row], []).shows, counter(2))

    def test_copies_and_equality(self):
        right = deepest(counter(2))
        rows, layers = tuple(right.rows), tuple(right.layers)
        found = Deepest(3, rows, layers)
        self.assertEqual(found, right)
        self.assertEqual([found.rows, found.layers], [list(rows), list(layers)])
        found.rows[0]["go"] = 0
        self.assertEqual(right.rows[0], {"go": 1})
        self.assertNotEqual(found, right)
        given = list(layers)
        other = Deepest(3, rows, given)
        given.pop()
        self.assertEqual(other, right)
        self.assertNotEqual(Deepest(2, rows, layers), right)
        self.assertNotEqual(Deepest(3, rows, layers[:3]), right)
        self.assertNotEqual(right, None)


if __name__ == "__main__":
    unittest.main()
