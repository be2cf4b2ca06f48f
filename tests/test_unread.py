"""[11]: registers that are never read, and what is stuck."""

import random
import time
import unittest

from beatwires.alikes import Alike, Apart
from beatwires.circuits import Circuit, run
from beatwires.diagrams import Diagram
from beatwires.errors import BadCircuit, BadRow, NoPart
from beatwires.unread import Read, Unread, all_tests, judge_stuck, judge_unread, stuck, unread
from tests import circuitdice

BARE = Circuit((), (), (), ())
# b is read only by c, and c by nothing; d shows only where e is 1, which never comes.
DEEP = Circuit(("i",), (("a", 0, "i"), ("b", 1, "a"), ("c", 0, "b"), ("d", 0, "i"), ("e", 0, "e")),
               (("g", "and", ("d", "e")),), (("o", "a"), ("p", "g")))
NAMES = ("a", "b", "c", "d", "e")


class TestJudging(unittest.TestCase):
    def test_registers_behind_others(self):
        self.assertEqual(unread(DEEP), ["b", "c", "d"])
        for name in NAMES:
            found = judge_unread(DEEP, name)
            self.assertIs(bool(found), name in "bcd")
            self.assertIsInstance(found, Unread if found else Read)
            self.assertTrue(found.shows(DEEP, name))
        found = judge_unread(DEEP, "b")
        self.assertEqual(found.states.order, NAMES)
        self.assertEqual(found.closed.order[:4], ("one.a", "two.a", "one.b", "two.b"))
        self.assertEqual(unread(BARE), [])
        self.assertEqual(unread(Circuit((), (("r", 0, "r"),), (), ())), ["r"])

    def test_two_that_are_read_only_together(self):
        # Each by itself is never read, as the other one is always 0.
        both = Circuit((), (("r", 0, "0"), ("s", 0, "0")), (("g", "and", ("r", "s")),), (("o", "g"),))
        self.assertEqual(unread(both), ["r", "s"])
        later = Circuit(("i",), (("r", 0, "i"), ("s", 0, "r")), (("g", "and", ("r", "s")),), (("o", "g"),))
        found = judge_unread(later, "s")
        self.assertTrue(found.rows)
        self.assertTrue(found.shows(later, "s"))

    def test_against_trying_all_pairs(self):
        dice = random.Random(11)
        seen = []
        for _ in range(120):
            one = circuitdice.small(dice, 1, 4)
            names = [told[0] for told in one.registers]
            apart = circuitdice.unlike_after(one, one)
            states = set().union(*circuitdice.state_layers(one))
            wanted = []
            for at, name in enumerate(names):
                turned = [(state, state[:at] + (1 - state[at],) + state[at + 1:]) for state in states]
                if not any(pair in apart for pair in turned):
                    wanted.append(name)
                found = judge_unread(one, name)
                self.assertEqual(bool(found), name in wanted)
                self.assertTrue(found.shows(one, name))
                seen.append(bool(found) or len(found.rows))
            self.assertEqual(unread(one), wanted)
        self.assertTrue({True, 0, 1} <= set(seen))


class TestShowing(unittest.TestCase):
    def test_other_sets(self):
        right = judge_unread(DEEP, "b")

        def shows(states, closed, name="b"):
            return Unread(states, closed).shows(DEEP, name)
        every = Diagram(NAMES, (), -2)
        order = right.closed.order
        still = Diagram.of(("not", ("name", "e")), NAMES)
        same = ("and", (("not", ("xor", (("name", "one.a"), ("name", "two.a")))), ("not", ("name", "one.e")),
                        ("not", ("name", "two.e"))))
        self.assertTrue(shows(right.states, right.closed))
        self.assertTrue(shows(still, Diagram.of(same, order)), "larger, and still closed")
        self.assertTrue(shows(right.states, Diagram.of(same, order)))
        self.assertFalse(shows(every, Diagram.of(same, order)), "not each state turned over")
        self.assertFalse(shows(every, Diagram(order, (), -2)), "an unlike output")
        self.assertFalse(shows(Diagram(NAMES, (), -1), right.closed), "without the starts")
        self.assertFalse(shows(Diagram.of(("and", tuple(
            ("name", name) if name == "b" else ("not", ("name", name)) for name in NAMES)), NAMES), right.closed))
        self.assertFalse(shows(right.states, Diagram(order, (), -1)))
        self.assertFalse(shows(right.states, right.closed, "a"))
        self.assertFalse(shows(Diagram(NAMES[::-1], right.states.rows, right.states.root), right.closed))
        self.assertFalse(shows(right.states, Diagram(order[::-1], right.closed.rows, right.closed.root)))
        self.assertFalse(shows(Diagram(tuple("vwxyz"), right.states.rows, right.states.root), right.closed))
        named = tuple(f"x{at}" for at in range(10))
        self.assertFalse(shows(right.states, Diagram(named, right.closed.rows, right.closed.root)))
        pair = Diagram.of(("and", (same, ("not", ("name", "one.c")))), order)
        self.assertFalse(shows(right.states, pair), "not closed")

    def test_other_rows(self):
        zero, one = {"i": 0}, {"i": 1}
        for rows, more, told in (([], [zero], True), ([one], [one], True), ([], [], False), ([one], [], False),
                                 ([], [zero, one], False), ([one, zero], [one], True)):
            self.assertEqual(Read(rows, more).shows(DEEP, "a"), told)
            self.assertFalse(Read(rows, more).shows(DEEP, "c"))
        self.assertTrue(Read([one], [zero]).shows(DEEP, "e"))
        self.assertTrue(Read([], [one, one]).shows(DEEP, "e"))
        self.assertFalse(Read([], [one]).shows(DEEP, "e"))
        for row in ({}, {"i": 2}, {"i": True}, {"i": 0, "j": 0}, None):
            self.assertRaises(BadRow, Read([row], [zero]).shows, DEEP, "a")
            self.assertRaises(BadRow, Read([], [zero, row]).shows, DEEP, "a")

    def test_errors(self):
        sets = Diagram((), (), -2)
        for call in (judge_unread, Unread(sets, sets).shows, Read([5], []).shows):
            with self.assertRaises(BadCircuit) as caught:
                call(5, "a")
            self.assertIsNone(caught.exception.name)
            for name in ("g", "i", "o", "x", None, 5, ["a"]):
                with self.assertRaises(NoPart) as caught:
                    call(DEEP, name)
                self.assertEqual(caught.exception.name, name)
        for call in (unread, all_tests):
            with self.assertRaises(BadCircuit) as caught:
                call(None)
            self.assertIsNone(caught.exception.name)

    def test_copies_and_equality(self):
        rows, more = ({"i": 1},), ({"i": 0}, {"i": 0})
        found = Read(rows, more)
        self.assertEqual([found.rows, found.more], [list(rows), list(more)])
        self.assertEqual(found, Read(list(rows), list(more)))
        self.assertNotEqual(found, Read(rows, more[:1]))
        self.assertNotEqual(found, Read((), more))
        found.more[0]["i"] = found.rows[0]["i"] = 5
        self.assertEqual([rows, more], [({"i": 1},), ({"i": 0}, {"i": 0})])
        one, other = Diagram((), (), -2), Diagram((), (), -1)
        self.assertEqual(Unread(one, other), Unread(one, other))
        self.assertNotEqual(Unread(one, other), Unread(one, one))
        self.assertNotEqual(Unread(one, other), Unread(other, other))
        self.assertNotEqual(Unread(one, other), found)
        self.assertNotEqual(found, Unread(one, other))


class TestStuck(unittest.TestCase):
    def test_the_circuit(self):
        told = stuck(DEEP, "a", 1)
        self.assertEqual(told, Circuit(DEEP.inputs, (("a", 0, "i"), ("b", 1, "1"), *DEEP.registers[2:]), DEEP.gates,
                                       (("o", "1"), ("p", "g"))))
        self.assertEqual(stuck(DEEP, "e", 0), Circuit(DEEP.inputs, (*DEEP.registers[:4], ("e", 0, "0")), (
            ("g", "and", ("d", "0")),), DEEP.outputs))
        self.assertEqual(stuck(DEEP, "g", 0).outputs, (("o", "a"), ("p", "0")))
        self.assertEqual(stuck(DEEP, "c", 0), DEEP)

    def test_judging(self):
        found = judge_stuck(DEEP, "a", 1)
        self.assertEqual(found, Apart([{"i": 0}]))
        self.assertEqual(len(judge_stuck(DEEP, "a", 0).rows), 2)
        for name, bit in (("b", 0), ("g", 0), ("e", 0), ("d", 1)):
            self.assertIsInstance(judge_stuck(DEEP, name, bit), Alike)
            self.assertTrue(judge_stuck(DEEP, name, bit).shows(DEEP, stuck(DEEP, name, bit)))

    def test_errors_in_their_order(self):
        for call in (stuck, judge_stuck):
            with self.assertRaises(BadCircuit) as caught:
                call("c", "x", 5)
            self.assertIsNone(caught.exception.name)
            for bit in (2, -1, True, False, None, "1"):
                self.assertRaises(BadRow, call, DEEP, "a", bit)
                self.assertRaises(BadRow, call, DEEP, "x", bit)
            for name in ("i", "o", "x", "0", None, 5, ["a"]):
                with self.assertRaises(NoPart) as caught:
                    call(DEEP, name, 1)
                self.assertEqual(caught.exception.name, name)

    def test_fewest_rows_of_tests(self):
        self.assertEqual(all_tests(BARE), {})
        self.assertEqual(all_tests(DEEP), {
            ("a", 0): 2, ("a", 1): 1, ("b", 0): None, ("b", 1): None, ("c", 0): None, ("c", 1): None, ("d", 0): None,
            ("d", 1): None, ("e", 0): None, ("e", 1): 2, ("g", 0): None, ("g", 1): 1})
        self.assertEqual(list(all_tests(DEEP)), [(name, bit) for name in (*NAMES, "g") for bit in (0, 1)])
        dice = random.Random(12)
        seen = set()
        for _ in range(40):
            one = circuitdice.small(dice, 0, 3)
            told = all_tests(one)
            names = [told[0] for told in one.registers + one.gates]
            self.assertEqual(list(told), [(name, bit) for name in names for bit in (0, 1)])
            for name, bit in told:
                other = stuck(one, name, bit)
                fewest = circuitdice.unlike_after(one, other).get((one.starts(), one.starts()))
                self.assertEqual(told[name, bit], fewest)
                seen.add(fewest)
                found = judge_stuck(one, name, bit)
                self.assertEqual(fewest, None if found else len(found.rows))
                if fewest:
                    self.assertNotEqual(list(run(one, found.rows))[-1], list(run(other, found.rows))[-1])
        self.assertTrue({None, 1, 2, 3} <= seen)

    def test_eight_registers_and_eight_inputs(self):
        since = time.perf_counter()
        gates = [(f"g{at}", "xor", (f"r{at}", f"i{at}", f"n{at}")) for at in range(8)]
        gates += [(f"n{at}", "and", (f"r{(3 * at + 1) % 8}", f"i{(at + 3) % 8}")) for at in range(8)]
        held = tuple((f"r{at}", 0, f"g{at}") for at in range(8))
        one = Circuit(tuple(f"i{at}" for at in range(8)), held, tuple(gates), (("o", "r3"),))
        told = all_tests(one)
        self.assertEqual({name for name, _ in told if told[name, 1] is None}, {
            f"{sign}{at}" for sign in "rgn" for at in (0, 1, 4, 5)})
        self.assertEqual(unread(one), ["r0", "r1", "r4", "r5"])
        for name in ("r0", "r6"):
            self.assertTrue(judge_unread(one, name).shows(one, name))
        self.assertLess(time.perf_counter() - since, 30)


if __name__ == "__main__":
    unittest.main()
