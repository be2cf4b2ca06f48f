"""[20]: registers moved over gates."""

import itertools
import random
import unittest

from beatwires.alikes import judge_alike
from beatwires.circuits import Circuit, run
from beatwires.errors import BadCircuit, NoPart
from beatwires.moving import backward, forward
from tests import circuitdice

KINDS = ("not", "and", "or", "xor", "pick")


def drawn(dice, circuit, many=20):
    """Rows by chance."""
    return [{name: dice.randint(0, 1) for name in circuit.inputs} for _ in range(many)]


def bit_of(kind, bits):
    """The bit of a gate, as [2] tells it."""
    if kind == "not":
        return 1 - bits[0]
    if kind == "pick":
        return bits[1] if bits[0] == 1 else bits[2]
    return int({"and": sum(bits) == len(bits), "or": sum(bits) > 0, "xor": sum(bits) % 2 == 1}[kind])


def gate_of(circuit, name):
    return [gate for gate in circuit.gates if gate[0] == name][0]


def held_of(circuit, name):
    return [told for told in circuit.registers if told[0] == name][0]


class TestMoving(unittest.TestCase):
    def same(self, dice, one, other):
        """That two circuits show the same, in drawn runs and for all inputs."""
        self.assertEqual(other.inputs, one.inputs)
        self.assertEqual([name for name, _ in other.outputs], [name for name, _ in one.outputs])
        rows = drawn(dice, one)
        self.assertEqual(list(run(other, rows)), list(run(one, rows)))
        if len(one.registers) + len(other.registers) <= 16 and len(one.inputs) <= 8:
            self.assertTrue(judge_alike(one, other))

    def moved_forward(self, dice, circuit, name):
        """What forward is to return, looked through."""
        _, kind, nets = gate_of(circuit, name)
        starts = {told: start for told, start, _ in circuit.registers}
        moved = forward(circuit, name)
        if not all(net in starts or net in "01" for net in nets):
            self.assertIsNone(moved)
            return None
        self.assertEqual(held_of(moved, name)[1], bit_of(kind, [starts.get(net, int(net in "1")) for net in nets]))
        self.assertEqual(tuple(told for told in moved.registers if told[0] != name), circuit.registers)
        self.assertNotIn(name, [gate[0] for gate in moved.gates])
        self.assertLessEqual(len(moved), len(circuit))
        self.same(dice, circuit, moved)
        return moved

    def moved_backward(self, dice, circuit, name):
        """What backward is to return, looked through."""
        place = [told[0] for told in circuit.registers].index(name)
        _, start, goal = circuit.registers[place]
        read = [net for _, _, net in circuit.registers] + [net for _, net in circuit.outputs]
        read += [net for _, _, nets in circuit.gates for net in nets]
        moved = backward(circuit, name)
        possible = goal in [gate[0] for gate in circuit.gates] and read.count(goal) == 1
        if possible:
            _, kind, nets = gate_of(circuit, goal)
            names = sorted(set(nets) - {"0", "1"})
            tries = [dict(zip(names, bits)) for bits in itertools.product((0, 1), repeat=len(names))]
            possible = any(bit_of(kind, [bits.get(net, int(net in "1")) for net in nets]) == start for bits in tries)
        if not possible:
            self.assertIsNone(moved)
            return None
        self.assertEqual(gate_of(moved, name)[1], kind)
        self.assertNotIn(name, [told[0] for told in moved.registers])
        new = moved.registers[place:place + len(names)]
        self.assertEqual(moved.registers, circuit.registers[:place] + new + circuit.registers[place + 1:])
        self.assertEqual(sorted(net for _, _, net in new), names)
        self.assertFalse([told[0] for told in new if told[0] in circuit])
        self.assertLessEqual(len(moved), len(circuit))
        self.same(dice, circuit, moved)
        return moved

    def test_the_example(self):
        circuit = Circuit(("i",), (("r", 1, "i"),), (("g", "not", ("r",)),), (("o", "g"),))
        moved = self.moved_forward(random.Random(29), circuit, "g")
        self.assertEqual(sorted(one[:2] for one in moved.registers), [("g", 0), ("r", 1)])
        self.assertEqual(len(self.moved_backward(random.Random(29), moved, "g").registers), 2)
        self.assertIsNone(backward(circuit, "r"))

    def test_each_kind_forward(self):
        dice = random.Random(30)
        for kind in KINDS:
            for starts in itertools.product((0, 1), repeat=3):
                held = tuple((name, start, net) for name, start, net in zip("rst", starts, ("i", "g", "j")))
                many = {"not": [1], "pick": [3]}.get(kind, [2, 3, 5, 60])
                for size in many:
                    nets = tuple(dice.choice(["r", "s", "t", "t", "0", "1"]) for _ in range(size))
                    circuit = Circuit(("i", "j"), held, (("g", kind, nets),), (("o", "g"), ("p", "s")))
                    self.assertIsNotNone(self.moved_forward(dice, circuit, "g"))

    def test_what_forward_is_not_for(self):
        held = (("r", 1, "i"), ("s", 0, "g"))
        for nets in (("r", "i"), ("r", "h"), ("i", "i"), ("h", "1"), ("r", "s", "h")):
            circuit = Circuit(("i",), held, (("h", "not", ("r",)), ("g", "and", nets)), (("o", "g"),))
            self.assertIsNone(forward(circuit, "g"))
            self.assertIsNotNone(self.moved_forward(random.Random(31), circuit, "h"))

    def test_edges_of_forward(self):
        dice = random.Random(32)
        for gates, outputs in (((("g", "xor", ("r", "r")),), (("o", "g"),)), ((("g", "xor", ("r", "r", "s")),), (("o", "g"),)),
                               ((("g", "and", ("r", "0")),), (("o", "g"),)), ((("g", "pick", ("1", "s", "r")),), (("o", "g"),)),
                               ((("g", "or", ("1", "0")),), (("o", "g"),)), ((("g", "not", ("0",)),), (("o", "g"),)),
                               ((("g", "and", ("r", "s")),), (("o", "s"),)), ((("g", "and", ("r", "s")),), ())):
            circuit = Circuit(("i",), (("r", 1, "g"), ("s", 1, "i")), gates, outputs)
            self.assertIsNotNone(self.moved_forward(dice, circuit, "g"))
            circuit = Circuit(("i",), (("r", 1, "s"), ("s", 1, "r")), gates, outputs)
            self.assertIsNotNone(self.moved_forward(dice, circuit, "g"))

    def test_each_kind_backward(self):
        dice = random.Random(33)
        seen = set()
        for kind in KINDS:
            for start in (0, 1):
                for _ in range(250):
                    size = {"not": 1, "pick": 3}.get(kind) or dice.choice([2, 2, 3, 4])
                    nets = tuple(dice.choice(["r", "s", "i", "h", "0", "1"]) for _ in range(size))
                    gates = (("h", "or", ("i", "r")), ("g", kind, nets))
                    circuit = Circuit(("i",), (("s", 1, "h"), ("r", start, "g"), ("t", 0, "r")), gates,
                                      (("o", "r"), ("p", "t")))
                    seen.add((kind, start, self.moved_backward(dice, circuit, "r") is None))
        self.assertEqual(len(seen), 20)

    def test_gates_of_many_nets_backward(self):
        inputs = tuple(f"i{at}" for at in range(60))
        for kind, start in itertools.product(("and", "or", "xor"), (0, 1)):
            circuit = Circuit(inputs, (("r", start, "g"),), (("g", kind, inputs),), (("o", "r"),))
            moved = backward(circuit, "r")
            self.assertEqual([net for _, _, net in moved.registers], list(inputs))
            self.same(random.Random(34), circuit, moved)
        # Each input twice cancels out, so that no start but 0 can be had.
        for start in (0, 1):
            circuit = Circuit(inputs, (("r", start, "g"),), (("g", "xor", inputs[:30] * 2),), (("o", "r"),))
            self.assertEqual(backward(circuit, "r") is None, start == 1)

    def test_what_backward_is_not_for(self):
        gate = ("g", "and", ("i", "j"))
        for held, gates, outputs in (
                ((("r", 0, "i"),), (gate,), (("o", "r"),)), ((("r", 0, "1"),), (), (("o", "r"),)),
                ((("r", 0, "r"),), (), (("o", "r"),)), ((("s", 0, "i"), ("r", 0, "s")), (), (("o", "r"),)),
                ((("r", 0, "g"), ("s", 0, "g")), (gate,), (("o", "r"),)), ((("r", 0, "g"),), (gate,), (("o", "g"),)),
                ((("r", 0, "g"),), (gate, ("h", "not", ("g",))), (("o", "r"),)),
                ((("r", 1, "g"),), (("g", "and", ("i", "0")),), (("o", "r"),)),
                ((("r", 0, "g"),), (("g", "or", ("i", "j", "1")),), (("o", "r"),)),
                ((("r", 1, "g"),), (("g", "xor", ("i", "i")),), (("o", "r"),)),
                ((("r", 1, "g"),), (("g", "and", ("0", "1")),), (("o", "r"),)),
                ((("r", 1, "g"),), (("g", "pick", ("i", "0", "i")),), (("o", "r"),))):
            circuit = Circuit(("i", "j"), held, gates, outputs)
            self.assertIsNone(self.moved_backward(random.Random(35), circuit, "r"))

    def test_edges_of_backward(self):
        dice = random.Random(36)
        for kind, nets, start in (("and", ("r", "i"), 1), ("xor", ("r", "i", "r"), 0), ("pick", ("r", "r", "r"), 1),
                                  ("not", ("r",), 0), ("or", ("i", "i"), 1), ("and", ("0", "1"), 0), ("not", ("0",), 1),
                                  ("pick", ("i", "0", "1"), 0), ("pick", ("1", "r", "i"), 1), ("xor", ("1", "i"), 0)):
            for outputs in ((("o", "r"),), (("o", "s"),), ()):
                circuit = Circuit(("i",), (("q", 1, "r"), ("r", start, "g"), ("s", 0, "r")), (("g", kind, nets),), outputs)
                moved = self.moved_backward(dice, circuit, "r")
                self.assertIsNotNone(moved)
                self.assertEqual(len(moved.registers), 2 + len(set(nets) - {"0", "1"}))

    def test_forth_and_back_by_chance(self):
        dice = random.Random(37)
        seen = set()
        for _ in range(150):
            circuit = circuitdice.circuit(dice, dice.randint(1, 4), dice.randint(0, 2), dice.randint(1, 8), 2)
            for _ in range(4):
                gates = [gate[0] for gate in circuit.gates]
                held = [told[0] for told in circuit.registers]
                if dice.random() < 0.5 and gates:
                    moved = self.moved_forward(dice, circuit, dice.choice(gates))
                    seen.add(("forward", moved is None))
                elif held:
                    moved = self.moved_backward(dice, circuit, dice.choice(held))
                    seen.add(("backward", moved is None))
                else:
                    moved = None
                if moved is not None and len(moved.registers) < 8:
                    circuit = moved
        self.assertEqual(len(seen), 4)

    def test_names_that_are_taken(self):
        circuit = Circuit(("moved0",), (("r", 1, "moved0"), ("moved2", 0, "r")), (("moved1", "and", ("r", "moved2")),),
                          (("o", "moved1"),))
        moved = self.moved_forward(random.Random(38), circuit, "moved1")
        again = self.moved_backward(random.Random(38), moved, "moved1")
        self.same(random.Random(39), circuit, again)

    def test_errors(self):
        circuit = Circuit(("i",), (("r", 1, "i"),), (("g", "not", ("r",)),), (("o", "g"),))
        for call, names in ((forward, ("r", "i", "o", "x", "0", "1", None, 5)), (backward, ("g", "i", "o", "x", "0", "1", None, 5))):
            for name in names:
                with self.assertRaises(NoPart) as caught:
                    call(circuit, name)
                self.assertEqual(caught.exception.name, name)
            for thing in (None, 5, "c", (("i",), (), (), ())):
                for name in ("g", "r", None):
                    with self.assertRaises(BadCircuit) as caught:
                        call(thing, name)
                    self.assertIsNone(caught.exception.name)
        before = Circuit(("i",), (("r", 1, "i"),), (("g", "not", ("r",)),), (("o", "g"),))
        forward(circuit, "g")
        backward(circuit, "r")
        self.assertEqual(circuit, before)


if __name__ == "__main__":
    unittest.main()
