"""[2]: circuits, what they tell, and what is no circuit."""

import copy
import itertools
import unittest

from beatwires.circuits import Circuit, run, state_behind
from beatwires.errors import BadCircuit, BadRow, BadState, Looped

COUNTER = (("go",), (("one", 0, "g"),), (("g", "xor", ("one", "go")),), (("now", "one"),))
KINDS = (
    ("not", 1, lambda bits: 1 - bits[0]),
    ("and", 2, lambda bits: int(all(bits))),
    ("and", 5, lambda bits: int(all(bits))),
    ("or", 2, lambda bits: int(any(bits))),
    ("or", 4, lambda bits: int(any(bits))),
    ("xor", 2, lambda bits: sum(bits) % 2),
    ("xor", 5, lambda bits: sum(bits) % 2),
    ("pick", 3, lambda bits: bits[1] if bits[0] else bits[2]),
)


def gates_only(*gates):
    return Circuit(("a", "b"), (), gates, ())


class TestCircuit(unittest.TestCase):
    def bad(self, name, *told):
        with self.assertRaises(BadCircuit) as caught:
            Circuit(*told)
        self.assertEqual(caught.exception.name, name)

    def test_each_kind(self):
        for kind, many, means in KINDS:
            names = tuple(f"i{at}" for at in range(many))
            circuit = Circuit(names, (), (("g", kind, names),), (("o", "g"),))
            for bits in itertools.product((0, 1), repeat=many):
                row = dict(zip(names, bits))
                self.assertEqual(circuit.tick((), row), ({"o": means(bits)}, ()), (kind, bits))
                self.assertEqual(circuit.values((), row), {"0": 0, "1": 1, "g": means(bits), **row})

    def test_sixty_nets_and_constants(self):
        names = tuple(f"i{at}" for at in range(60))
        gates = (("a", "and", names), ("o", "or", names), ("x", "xor", names), ("p", "pick", ("x", "0", "1")),
                 ("n", "not", ("0",)), ("z", "and", ("1", "0")), ("y", "xor", ("1", "1")))
        circuit = Circuit(names, (), gates, (("one", "1"), ("zero", "0")))
        row = {name: 1 for name in names}
        seen = circuit.values((), row)
        self.assertEqual([seen[name] for name in "aoxpnzy"], [1, 1, 0, 1, 1, 0, 0])
        row["i59"] = 0
        seen = circuit.values((), row)
        self.assertEqual([seen[name] for name in "aoxpnzy"], [0, 1, 1, 0, 1, 0, 0])
        self.assertEqual(circuit.tick((), row), ({"one": 1, "zero": 0}, ()))

    def test_registers_take_their_nets_together(self):
        circuit = Circuit(("i",), (("r", 0, "i"), ("s", 1, "r"), ("t", 0, "1")), (), (("o", "s"), ("p", "i")))
        self.assertEqual(circuit.starts(), (0, 1, 0))
        self.assertEqual(circuit.tick((0, 1, 0), {"i": 1}), ({"o": 1, "p": 1}, (1, 0, 1)))
        self.assertEqual(circuit.tick((1, 0, 1), {"i": 0}), ({"o": 0, "p": 0}, (0, 1, 1)))

    def test_gates_in_any_order(self):
        gates = (("a", "not", ("i",)), ("b", "and", ("a", "i")), ("c", "or", ("a", "b")), ("d", "xor", ("c", "b")))
        wanted = Circuit(("i",), (), gates, (("o", "d"),)).values((), {"i": 0})
        for told in itertools.permutations(gates):
            self.assertEqual(Circuit(("i",), (), told, (("o", "d"),)).values((), {"i": 0}), wanted)

    def test_len_in_and_equality(self):
        circuit = Circuit(*COUNTER)
        self.assertEqual(len(circuit), 1)
        self.assertEqual([name in circuit for name in ("go", "one", "g", "now", "0", "1", "x", 1, ["g"], None)],
                         [True] * 3 + [False] * 7)
        self.assertTrue(circuit == Circuit(*copy.deepcopy(COUNTER)))
        self.assertFalse(circuit != Circuit(*COUNTER))
        self.assertFalse(circuit == Circuit(("go",), (("one", 1, "g"),), COUNTER[2], COUNTER[3]))
        for at in range(4):
            told = list(COUNTER)
            told[at] = {0: ("go", "x"), 1: (("one", 1, "g"),), 2: COUNTER[2] + (("h", "not", ("g",)),), 3: ()}[at]
            self.assertFalse(circuit == Circuit(*told))
        self.assertFalse(circuit == COUNTER)
        self.assertEqual((circuit.inputs, circuit.registers, circuit.gates, circuit.outputs), COUNTER)

    def test_empty(self):
        circuit = Circuit((), (), (), ())
        self.assertEqual(circuit.tick((), {}), ({}, ()))
        self.assertEqual(len(circuit), 0)
        self.assertEqual(list(run(circuit, [{}, {}])), [{}, {}])

    def test_names(self):
        longest = "a" + "0._z" * 5 + "b12"
        self.assertEqual(len(longest), 24)
        Circuit((longest,), (), (), ((longest, longest),))
        for bad in ("", "A", "0", "1a", "_a", ".a", "a-b", "a b", "\u00e9", "a\u00e9", "a\n", longest + "x", 1, None,
                    b"a", ("a",)):
            self.bad(None, (bad,), (), (), ())
            self.bad(None, (), ((bad, 0, "0"),), (), ())
            self.bad(None, (), (), ((bad, "not", ("0",)),), ())
            self.bad(None, (), (), (), ((bad, "0"),))

    def test_inputs_are_wrong(self):
        self.bad(None, ["a"], (), (), ())
        self.bad(None, "a", (), (), ())
        self.bad(None, ("a", "b", "a"), (), (), ())
        self.bad(None, None, (), (), ())

    def test_things_are_no_tuples(self):
        for at in (1, 2, 3):
            told = [(), (), (), ()]
            told[at] = []
            self.bad(None, *told)
            told[at] = None
            self.bad(None, *told)
            told[at] = ([],)
            self.bad(None, *told)
            told[at] = ((),)
            self.bad(None, *told)
            told[at] = (["r", 0, "0"],)
            self.bad(None, *told)
            told[at] = (("r",),)
            self.bad("r", *told)

    def test_too_many(self):
        registers = tuple((f"r{at}", 0, "0") for at in range(61))
        gates = tuple((f"g{at}", "not", ("0",)) for at in range(2001))
        outputs = tuple((f"o{at}", "0") for at in range(61))
        names = tuple(f"i{at}" for at in range(60))
        self.assertEqual(len(Circuit(names, registers[:60], gates[:2000], outputs[:60])), 2000)
        self.bad(None, (), registers, (), ())
        self.bad(None, (), (), gates, ())
        self.bad(None, (), (), (), outputs)

    def test_bad_triples_and_pairs(self):
        for start in (2, -1, True, False, "0", None):
            self.bad("r", (), (("r", start, "0"),), (), ())
        for net in ("2", "", "A", 0, 1, None, "x" * 25, ["a"]):
            self.bad("r", (), (("r", 0, net),), (), ())
            self.bad("g", (), (), (("g", "and", ("0", net)),), ())
            self.bad("o", (), (), (), (("o", net),))
        self.bad("r", (), (("r", 0, "0", "0"),), (), ())
        self.bad("g", (), (), (("g", "not", ("0",), 1),), ())
        self.bad("o", (), (), (), (("o", "0", "0"),))
        for kind, many in (("not", 0), ("not", 2), ("and", 1), ("and", 61), ("or", 0), ("or", 61), ("xor", 1),
                           ("xor", 61), ("pick", 2), ("pick", 4), ("nand", 2), ("buf", 1), (None, 2), (["and"], 2),
                           (1, 1), ("", 1)):
            self.bad("g", (), (), (("g", kind, ("0",) * many),), ())
        self.bad("g", (), (), (("g", "and", ["0", "1"]),), ())
        self.bad("g", (), (), (("g", "and", "01"),), ())
        self.bad("g", (), (), (("g", "and", {"0": 1, "1": 0}),), ())
        self.bad(None, (), (["r", 0, "0"],), (), ())
        self.bad(None, (), (), (["g", "not", ("0",)],), ())
        self.bad(None, (), (), (), (["o", "0"],))
        self.bad(None, (), (), (), ("oo",))
        self.bad(None, (), (), (), ("o0",))
        self.assertEqual(len(gates_only(("g", "and", ("a",) * 60))), 1)

    def test_twice(self):
        self.bad("a", ("a",), (("a", 0, "0"),), (), ())
        self.bad("a", ("a",), (), (("a", "not", ("0",)),), ())
        self.bad("r", (), (("r", 0, "0"), ("r", 1, "0")), (), ())
        self.bad("r", (), (("r", 0, "0"),), (("r", "not", ("0",)),), ())
        self.bad("g", (), (), (("g", "not", ("0",)), ("g", "not", ("0",))), ())
        self.bad("o", (), (), (), (("o", "0"), ("o", "1")))
        self.assertEqual(Circuit(("a",), (), (), (("a", "a"),)).tick((), {"a": 1}), ({"a": 1}, ()))

    def test_nets_that_are_none(self):
        self.bad("r", ("i",), (("q", 0, "i"), ("r", 0, "x")), (), ())
        self.bad("g", ("i",), (), (("f", "not", ("i",)), ("g", "and", ("i", "x"))), ())
        self.bad("o", ("i",), (), (), (("p", "i"), ("o", "x")))
        self.bad("o", ("i",), (), (), (("p", "i"), ("o", "p")))

    def test_two_things_wrong_at_once(self):
        ring = (("g", "not", ("g",)),)
        self.bad(None, ["i"], (("r", 2, "0"),), (), ())
        self.bad("r", (), (("r", 2, "0"),), [], ())
        self.bad("r", (), (("r", 2, "0"), ("s", 3, "0")), (("g", "no", ()),), None)
        self.bad("g", (), (("r", 0, "0"), ("r", 0, "0")), (("g", "no", ()),), ())
        self.bad("o", (), (("r", 0, "0"), ("r", 0, "0")), (), (("o", 5),))
        self.bad("r", (), (("q", 0, "x"), ("r", 0, "0"), ("r", 0, "0")), (), (("o", "0"), ("o", "0")))
        self.bad("o", (), (("q", 0, "x"),), (), (("o", "0"), ("o", "0")))
        self.bad("q", (), (("q", 0, "x"),), (("g", "not", ("y",)),), (("o", "z"),))
        self.bad("f", (), (), ring + (("f", "not", ("y",)),), ())
        self.bad("o", (), (), ring, (("o", "z"),))
        self.bad(None, (), tuple((f"r{at}", 2, "0") for at in range(61)), (), ())
        for net in ("2", "01", "", "R"):
            self.bad("r", (), (("q", 0, "0"), ("q", 0, "0"), ("r", 0, net)), (), ())
            self.bad("g", (), (("q", 0, "0"), ("q", 0, "0")), (("g", "not", (net,)),), ())
            self.bad("o", (), (("q", 0, "0"), ("q", 0, "0")), (), (("o", net),))

    def ring(self, *gates):
        with self.assertRaises(Looped) as caught:
            gates_only(*gates)
        names = list(caught.exception.names)
        reads = {name: nets for name, _, nets in gates}
        self.assertEqual(len(names), len(set(names)))
        for at, name in enumerate(names):
            self.assertIn(names[(at + 1) % len(names)], reads[name])
        return names

    def test_rings(self):
        self.assertEqual(self.ring(("g", "not", ("g",))), ["g"])
        self.assertEqual(self.ring(("f", "and", ("a", "g")), ("g", "or", ("b", "1", "g"))), ["g"])
        self.assertEqual(sorted(self.ring(("f", "not", ("g",)), ("g", "not", ("f",)))), ["f", "g"])
        told = self.ring(("v", "not", ("f",)), ("f", "and", ("a", "g")), ("g", "and", ("h", "b")), ("h", "not", ("f",)),
                         ("u", "not", ("a",)))
        self.assertEqual(sorted(told), ["f", "g", "h"])
        told = self.ring(("u", "not", ("a",)), ("v", "or", ("u", "f")), ("f", "and", ("u", "a", "g")),
                         ("g", "and", ("u", "b", "f")))
        self.assertEqual(sorted(told), ["f", "g"])
        told = self.ring(("v", "or", ("w", "f")), ("w", "and", ("f", "a")), ("f", "xor", ("f", "1")))
        self.assertEqual(told, ["f"])

    def test_long_ring_and_long_row(self):
        row = [("g0", "not", ("a",))] + [(f"g{at}", "not", (f"g{at - 1}",)) for at in range(1, 2000)]
        for gates in (row, row[::-1]):
            circuit = Circuit(("a", "b"), (), tuple(gates), (("o", "g1999"),))
            self.assertEqual(circuit.tick((), {"a": 1, "b": 0}), ({"o": 1}, ()))
        self.assertEqual(len(self.ring(*([("g0", "not", ("g1999",))] + row[1:]))), 2000)

    def test_a_ring_through_a_register_is_none(self):
        circuit = Circuit((), (("r", 0, "g"),), (("g", "not", ("r",)),), (("o", "r"),))
        self.assertEqual([told["o"] for told in run(circuit, [{}] * 4)], [0, 1, 0, 1])

    def test_bad_states_and_rows(self):
        circuit = Circuit(*COUNTER)
        for asked in (circuit.tick, circuit.values):
            for state in ((), (0, 0), [0], (2,), (True,), (False,), ("0",), None, 0, {"one": 0}, (-1,)):
                with self.assertRaises(BadState):
                    asked(state, {"go": 1})
                with self.assertRaises(BadState):
                    asked(state, {"go": 5})
            for row in ({}, {"go": 1, "x": 0}, {"g": 1}, {"go": True}, {"go": False}, {"go": 2}, {"go": None}, None,
                        [("go", 1)], ("go",), {"go": "1"}, {"x": 1}):
                with self.assertRaises(BadRow):
                    asked((0,), row)

    def test_nothing_given_is_changed_or_kept(self):
        circuit = Circuit(*COUNTER)
        row = {"go": 1}
        told = circuit.values((0,), row)
        told["go"] = 7
        row2 = dict(row)
        self.assertEqual(row, {"go": 1})
        outputs, _ = circuit.tick((0,), row)
        outputs["now"] = 9
        self.assertEqual(circuit.tick((0,), row), ({"now": 0}, (1,)))
        self.assertEqual(row, row2)


class TestRun(unittest.TestCase):
    def test_from_the_starts_and_from_a_state(self):
        circuit = Circuit(*COUNTER)
        rows = [{"go": 1}, {"go": 1}, {"go": 0}]
        self.assertEqual(list(run(circuit, rows)), [{"now": 0}, {"now": 1}, {"now": 0}])
        self.assertEqual(list(run(circuit, rows, state=(1,))), [{"now": 1}, {"now": 0}, {"now": 1}])
        self.assertEqual(list(run(circuit, [], state=(1,))), [])
        self.assertEqual(state_behind(circuit, rows), (0,))
        self.assertEqual(state_behind(circuit, rows[:1]), (1,))
        self.assertEqual(state_behind(circuit, rows, state=(1,)), (1,))
        self.assertEqual(state_behind(circuit, []), (0,))
        self.assertEqual(state_behind(circuit, [], state=(1,)), (1,))
        self.assertEqual(list(run(circuit, tuple(rows), state=None)), [{"now": 0}, {"now": 1}, {"now": 0}])

    def test_errors_come_when_asked_for(self):
        circuit = Circuit(*COUNTER)
        told = run(circuit, [{"go": 1}, {"go": 2}])
        self.assertEqual(next(told), {"now": 0})
        with self.assertRaises(BadRow):
            next(told)
        for bad in ((0, 0), (True,), [0]):
            told = run(circuit, [{"go": 2}], state=bad)
            with self.assertRaises(BadState):
                next(told)
            with self.assertRaises(BadState):
                list(run(circuit, [], state=bad))
            with self.assertRaises(BadState):
                state_behind(circuit, [{"go": 2}], state=bad)
        told = run("circuit", [{"go": 2}], state=5)
        with self.assertRaises(BadCircuit) as caught:
            next(told)
        self.assertIsNone(caught.exception.name)
        with self.assertRaises(BadCircuit) as caught:
            state_behind(COUNTER, [{"go": 2}], state=5)
        self.assertIsNone(caught.exception.name)
        for bad in ({}, None, {"go": True}, 5):
            with self.assertRaises(BadRow):
                state_behind(circuit, [{"go": 1}, bad])
            with self.assertRaises(BadRow):
                list(run(circuit, [{"go": 1}, bad]))

    def test_rows_are_neither_changed_nor_kept(self):
        circuit = Circuit(*COUNTER)
        rows = [{"go": 1}, {"go": 1}, {"go": 1}]
        told = run(circuit, rows)
        next(told)
        rows[1]["go"] = 5
        rows.pop()
        self.assertEqual(list(told), [{"now": 1}, {"now": 0}])
        rows = [{"go": 1}, {"go": 0}]
        list(run(circuit, rows))
        state_behind(circuit, rows)
        self.assertEqual(rows, [{"go": 1}, {"go": 0}])

    def test_by_position_and_keyword(self):
        circuit = Circuit(*COUNTER)
        with self.assertRaises(TypeError):
            state_behind(circuit=circuit, rows=[])
        with self.assertRaises(TypeError):
            state_behind(circuit, [], (0,))


if __name__ == "__main__":
    unittest.main()
