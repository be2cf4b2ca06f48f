"""[21]: lean circuits."""

import random
import time
import unittest

from beatwires.alikes import judge_alike
from beatwires.circuits import Circuit, run
from beatwires.errors import BadCircuit
from beatwires.leaning import lean
from tests import circuitdice


def faults(circuit):
    """What is in a circuit that a lean one has none of."""
    found = []
    gates = {name: (kind, nets) for name, kind, nets in circuit.gates}
    goals = {name: net for name, _, net in circuit.registers}
    led, left = set(), [net for _, net in circuit.outputs]
    while left:
        name = left.pop()
        if name not in led:
            led.add(name)
            left += list(gates[name][1]) if name in gates else [goals[name]] if name in goals else []
    found += [f"{name} leads to no output" for name in [*gates, *goals] if name not in led]
    keys = []
    for name, (kind, nets) in gates.items():
        keys.append((kind, nets if kind == "pick" else tuple(sorted(nets))))
        bits = [net for net in nets if net in ("0", "1")]
        if bits:
            picks = kind == "pick" and nets[0] not in ("0", "1") and nets[1:] != ("1", "0")
            if not picks and not (kind == "xor" and bits == ["1"]):
                found.append(f"{name} has a bit")
        if kind in ("and", "or", "xor") and len(set(nets)) < len(nets):
            found.append(f"{name} has a net twice")
        if kind == "pick" and nets[1] == nets[2]:
            found.append(f"{name} picks the same")
        if kind == "not" and gates.get(nets[0], ("",))[0] == "not":
            found.append(f"{name} is not not")
    if len(set(keys)) < len(keys):
        found.append("two gates are the same")
    pairs = [(start, net) for _, start, net in circuit.registers]
    found += [f"{name} has itself" for name, _, net in circuit.registers if net == name]
    found += [f"{name} has its start" for name, start, net in circuit.registers if net == str(start)]
    if len(set(pairs)) < len(pairs):
        found.append("two registers are the same")
    return found


class TestLean(unittest.TestCase):
    def check(self, circuit):
        told = lean(circuit)
        self.assertEqual(told.inputs, circuit.inputs)
        self.assertEqual([name for name, _ in told.outputs], [name for name, _ in circuit.outputs])
        self.assertTrue({name for name, _, _ in told.gates} <= {name for name, _, _ in circuit.gates})
        self.assertTrue({name for name, _, _ in told.registers} <= {name for name, _, _ in circuit.registers})
        self.assertEqual(faults(told), [])
        self.assertEqual(lean(told), told)
        dice = random.Random(40)
        rows = [{name: dice.randint(0, 1) for name in circuit.inputs} for _ in range(20)]
        self.assertEqual(list(run(told, rows)), list(run(circuit, rows)))
        if len(circuit.registers) + len(told.registers) <= 16 and len(circuit.inputs) <= 8:
            self.assertTrue(judge_alike(circuit, told))
        return told

    def test_the_example(self):
        gates = (("a", "and", ("i", "1")), ("b", "and", ("i", "a")), ("c", "not", ("b",)), ("d", "not", ("c",)))
        told = self.check(Circuit(("i",), (("r", 0, "d"), ("s", 0, "i")), gates, (("o", "r"), ("p", "s"))))
        self.assertEqual([len(told), len(told.registers), told.outputs], [0, 1, (("o", "r"), ("p", "r"))])

    def one_gate(self, kind, *nets):
        """What becomes of a gate over inputs, a net of a not of i among them."""
        circuit = Circuit(("i", "j", "k"), (), (("n", "not", ("i",)), ("g", kind, nets)), (("o", "g"), ("p", "n")))
        told = self.check(circuit)
        gates = {name: gate for name, *gate in told.gates}
        net = dict(told.outputs)["o"]
        return gates.get(net, net) if net != "n" else net

    def test_bits_among_nets(self):
        for kind, nets, told in (
                ("and", ("i", "1"), "i"), ("and", ("i", "0"), "0"), ("and", ("1", "1"), "1"), ("and", ("i", "j", "1"), ["and", ("i", "j")]),
                ("or", ("i", "0"), "i"), ("or", ("i", "1"), "1"), ("or", ("0", "0"), "0"), ("or", ("0", "j", "i"), ["or", ("i", "j")]),
                ("xor", ("i", "0"), "i"), ("xor", ("1", "1"), "0"), ("xor", ("1", "0"), "1"), ("xor", ("1", "i", "1"), "i"),
                ("not", ("0",), "1"), ("not", ("1",), "0"), ("pick", ("1", "i", "j"), "i"), ("pick", ("0", "i", "j"), "j"),
                ("pick", ("i", "1", "0"), "i"), ("pick", ("i", "1", "1"), "1"), ("pick", ("i", "0", "0"), "0")):
            self.assertEqual(self.one_gate(kind, *nets), told, (kind, nets))
        for kind, nets in (("pick", ("i", "0", "1")), ("pick", ("i", "j", "0")), ("pick", ("i", "j", "1")), ("pick", ("i", "0", "j")),
                           ("pick", ("i", "1", "j")), ("xor", ("i", "1")), ("xor", ("1", "j", "i")), ("xor", ("1", "1", "1", "j"))):
            self.assertNotIn(self.one_gate(kind, *nets), ("0", "1", "i", "j", "k"), (kind, nets))

    def test_nets_twice(self):
        for kind, nets, told in (
                ("and", ("i", "i"), "i"), ("or", ("i", "i", "i"), "i"), ("xor", ("i", "i"), "0"), ("xor", ("i", "i", "i"), "i"),
                ("xor", ("i", "j", "i"), "j"), ("and", ("i", "j", "i"), ["and", ("i", "j")]), ("pick", ("i", "j", "j"), "j"),
                ("pick", ("i", "i", "0"), "i"), ("xor", ("i", "1", "i"), "1")):
            self.assertEqual(self.one_gate(kind, *nets), told, (kind, nets))
        for nets in (("i", "i", "j"), ("i", "j", "i"), ("i", "j", "k")):
            self.assertNotIn(self.one_gate("pick", *nets), ("0", "1", "i", "j", "k"))

    def test_nots(self):
        self.assertEqual(self.one_gate("not", "n"), "i")
        self.assertEqual(self.one_gate("not", "i"), "n")
        gates = tuple((f"g{at}", "not", (f"g{at - 1}" if at else "i",)) for at in range(31))
        for at in range(31):
            told = self.check(Circuit(("i",), (), gates, (("o", f"g{at}"),)))
            self.assertEqual([len(told), told.outputs], [1, (("o", "g0"),)] if at % 2 == 0 else [0, (("o", "i"),)])

    def test_gates_that_are_the_same(self):
        gates = (("a", "and", ("i", "j")), ("b", "and", ("i", "j")), ("c", "and", ("j", "i")), ("d", "xor", ("a", "b", "c")),
                 ("e", "pick", ("a", "i", "j")), ("f", "pick", ("c", "i", "j")), ("h", "or", ("e", "f")))
        told = self.check(Circuit(("i", "j"), (), gates, (("o", "d"), ("p", "h"), ("q", "a"))))
        self.assertEqual(len(told), 2)
        # A pick goes by the order of its nets.
        gates = (("a", "pick", ("i", "j", "k")), ("b", "pick", ("i", "k", "j")))
        self.assertEqual(len(self.check(Circuit(("i", "j", "k"), (), gates, (("o", "a"), ("p", "b"))))), 2)

    def test_what_leads_to_no_output(self):
        gates = (("a", "not", ("r",)), ("b", "and", ("i", "s")), ("c", "or", ("a", "i")))
        held = (("r", 0, "a"), ("s", 1, "b"), ("t", 0, "i"))
        told = self.check(Circuit(("i",), held, gates, (("o", "t"),)))
        self.assertEqual([told.gates, told.registers], [(), (("t", 0, "i"),)])
        told = self.check(Circuit(("i",), held, gates, (("o", "s"),)))
        self.assertEqual([len(told), len(told.registers)], [1, 1])
        told = self.check(Circuit(("i",), held, gates, ()))
        self.assertEqual([told.gates, told.registers, told.outputs], [(), (), ()])

    def test_registers(self):
        told = self.check(Circuit((), (("r", 1, "r"), ("s", 0, "0"), ("t", 1, "1"), ("u", 1, "0"), ("v", 0, "1")), (),
                                  tuple((name, name) for name in "rstuv")))
        self.assertEqual([told.registers, told.outputs], [(("u", 1, "0"), ("v", 0, "1")),
                                                          (("r", "1"), ("s", "0"), ("t", "1"), ("u", "u"), ("v", "v"))])
        told = self.check(Circuit(("i",), (("r", 0, "i"), ("s", 1, "i"), ("t", 0, "i")), (), (("o", "t"), ("p", "s"), ("q", "r"))))
        self.assertEqual(told.registers, (("r", 0, "i"), ("s", 1, "i")))
        # Ones that stay as they are only when others do.
        held = tuple((f"r{at}", 0, f"r{at + 1}" if at < 30 else "0") for at in range(31))
        for told in (held, held[::-1]):
            self.assertEqual(self.check(Circuit((), told, (), (("o", "r0"),))), Circuit((), (), (), (("o", "0"),)))
        gates = tuple((f"g{at}", "and", (f"r{at + 1}" if at < 30 else "0", "i")) for at in range(31))
        held = tuple((f"r{at}", 0, f"g{at}") for at in range(31))
        self.assertEqual(self.check(Circuit(("i",), held, gates, (("o", "r0"),))), Circuit(("i",), (), (), (("o", "0"),)))
        # Those that are the same for what they read is the same, in steps.
        held = tuple((f"{word}{at}", 0, f"{word}{at - 1}" if at else "i") for at in range(15) for word in "rs")
        told = self.check(Circuit(("i",), held, (("g", "xor", ("r14", "s14")),), (("o", "g"), ("p", "r14"))))
        self.assertEqual([len(told), len(told.registers)], [0, 15])

    def test_without_anything(self):
        for circuit in (Circuit((), (), (), ()), Circuit(("i",), (), (), ()), Circuit((), (), (), (("o", "1"), ("p", "0"))),
                        Circuit(("i",), (), (), (("o", "i"), ("p", "i")))):
            self.assertEqual(self.check(circuit), circuit)

    def test_names(self):
        # Gates and registers may have any names, those that the package gives itself among them.
        gates = (("g_1", "and", ("i", "r", "1")), ("g_0", "xor", ("g_1", "1")), ("moved0", "not", ("g_1",)))
        told = self.check(Circuit(("i",), (("r", 1, "moved0"),), gates, (("o", "g_0"), ("p", "moved0"))))
        self.assertEqual([len(told), len(told.registers)], [2, 1])

    def test_by_chance(self):
        dice = random.Random(41)
        less = 0
        for _ in range(500):
            circuit = circuitdice.circuit(dice, dice.randint(0, 5), dice.randint(0, 3), dice.randint(0, 12), dice.randint(0, 3))
            told = self.check(circuit)
            less += len(told) < len(circuit)
        self.assertGreater(less, 100)

    def test_large_ones_by_chance(self):
        dice = random.Random(42)
        for _ in range(20):
            self.check(circuitdice.circuit(dice, 30, 10, 300, 20))

    def test_sixty_registers_and_two_thousand_gates(self):
        since = time.perf_counter()
        dice = random.Random(43)
        for _ in range(2):
            self.check(circuitdice.circuit(dice, 60, 60, 2000, 60))
        # Registers that are found to stay as they are one after the other, with gates of many nets between.
        gates = tuple((f"g{at}", "and", tuple([f"r{at % 60 + 1}" if at % 60 < 59 else "0"] + [f"i{k}" for k in range(59)]))
                      for at in range(1500))
        held = tuple((f"r{at}", 0, f"g{at}") for at in range(60))
        circuit = Circuit(tuple(f"i{at}" for at in range(60)), held, gates, tuple((f"o{at}", f"r{at}") for at in range(60)))
        self.assertEqual(self.check(circuit).registers, ())
        wide = tuple((f"g{at}", ("xor", "and", "or")[at % 3], tuple(dice.choice([f"r{dice.randint(0, 59)}", f"g{max(0, at - 40)}" if at else "0",
                                                                                "1"]) for _ in range(60))) for at in range(2000))
        wide = (("g0", "xor", ("r0", "r1")), *wide[1:])
        held = tuple((f"r{at}", at % 2, f"g{1999 - at}") for at in range(60))
        self.check(Circuit((), held, wide, tuple((f"o{at}", f"g{1999 - at}") for at in range(60))))
        self.assertLess(time.perf_counter() - since, 30)

    def test_errors(self):
        for thing in (None, 5, "c", ((), (), (), ())):
            with self.assertRaises(BadCircuit) as caught:
                lean(thing)
            self.assertIsNone(caught.exception.name)

    def test_the_argument_stays(self):
        told = (("i",), (("r", 0, "r"),), (("g", "and", ("i", "1")),), (("o", "g"), ("p", "r")))
        circuit = Circuit(*told)
        lean(circuit)
        self.assertEqual((circuit.inputs, circuit.registers, circuit.gates, circuit.outputs), told)


if __name__ == "__main__":
    unittest.main()
