"""[13]: whether an answer always comes in time."""

import random
import time
import unittest

from beatwires.always import Never, Within, judge_answer
from beatwires.circuits import Circuit
from beatwires.diagrams import Diagram
from beatwires.errors import BadCircuit, BadFormula, BadRow
from beatwires.formulas import holds
from tests import circuitdice

BARE = Circuit((), (), (), ())
# What is asked for is there three ticks later, and waits wherever stop is 1.
LINE = Circuit(("ask",), (("r", 0, "ask"), ("s", 0, "r"), ("t", 0, "s")), (), (("o", "t"),))
STOP = Circuit(("ask", "stop"), (("r", 0, "g"), ("s", 0, "r")), (("h", "or", ("ask", "r")), ("g", "pick", (
    "stop", "h", "ask"))), ())
ASK, COME = ("name", "ask"), ("name", "t")
YES, NO = ("bit", 1), ("bit", 0)


def longest_wait(circuit, when, then):
    """The greatest number of ticks that it takes, tried by sets of states; None if there is none."""
    rows = circuitdice.all_rows(circuit)
    states = set().union(*circuitdice.state_layers(circuit))

    def behind(some, *formulas):
        return {circuit.tick(state, row)[1] for state in some for row in rows if all(
            holds(formula, circuit.values(state, row)) for formula in formulas)}
    waits = behind(states, when, ("not", then))
    for number in range(len(states) + 2):
        if not waits:
            return number
        waits = behind(waits, ("not", then))
    return None


class TestJudging(unittest.TestCase):
    def test_within(self):
        for one, when, then, number in ((LINE, ASK, COME, 3), (LINE, ASK, ASK, 0), (LINE, ("name", "r"), COME, 2),
                                        (LINE, NO, NO, 0), (BARE, NO, NO, 0), (BARE, YES, YES, 0),
                                        (LINE, ("name", "s"), ("or", (COME, ASK)), 1)):
            found = judge_answer(one, when, then)
            self.assertIsInstance(found, Within)
            self.assertIs(bool(found), True)
            self.assertEqual(found.number, number)
            self.assertEqual(len(found.layers), number + 2)
            self.assertFalse(found.layers[-1])
            self.assertEqual({layer.order for layer in found.layers}, {tuple(told[0] for told in one.registers)})
            self.assertTrue(found.shows(one, when, then))

    def test_a_number_of_0(self):
        found = judge_answer(LINE, ASK, ASK)
        found.rows = [{"x": 7}, None]
        self.assertTrue(found.shows(LINE, ASK, ASK), "rows are not looked at")
        self.assertEqual([layer.many() for layer in found.layers], [8, 0])

    def test_never(self):
        for one, when, then in ((STOP, ASK, ("name", "s")), (LINE, ASK, NO), (BARE, YES, NO), (LINE, COME, ASK)):
            found = judge_answer(one, when, then)
            if one is STOP:
                self.assertEqual(judge_answer(one, when, then).number, 2)
                continue
            self.assertIsInstance(found, Never)
            self.assertIs(bool(found), False)
            self.assertTrue(found.loop)
            self.assertTrue(found.shows(one, when, then))
        turns = Circuit((), (("r", 1, "t"), ("s", 0, "r"), ("t", 0, "s"), ("u", 0, "1")), (), ())
        for when in (YES, ("name", "s"), ("not", ("name", "u"))):
            found = judge_answer(turns, when, NO)
            self.assertEqual(len(found.loop) % 3, 0)
            self.assertTrue(found.shows(turns, when, NO))
        gates = (("h", "or", ("ask", "r")), ("n", "not", ("stop",)), ("k", "and", ("h", "stop")), ("d", "and", ("h", "n")))
        held = Circuit(("ask", "stop"), (("r", 0, "k"), ("s", 0, "d")), gates, ())
        found = judge_answer(held, ASK, ("name", "s"))
        self.assertIsInstance(found, Never)
        self.assertTrue(found.shows(held, ASK, ("name", "s")))

    def test_against_trying_all_states(self):
        dice = random.Random(15)
        seen = set()
        for _ in range(200):
            one = circuitdice.small(dice, 0, 4)
            # Many registers hand on what another one has, so that some waits are longer.
            held = [(name, start, dice.choice([f"r{max(0, at - 1)}", f"r{max(0, at - 1)}", net]))
                    for at, (name, start, net) in enumerate(one.registers)]
            one = Circuit(one.inputs, tuple(held), one.gates, one.outputs)
            names = [*one.inputs, *[told[0] for told in one.registers + one.gates]]
            some = [("name", dice.choice(names)) for _ in range(4)]
            if held:
                some[2] = ("name", held[-1][0])
            when = dice.choice([some[0], ("and", (some[0], ("not", some[1])))])
            then = dice.choice([some[2], ("or", (some[2], ("not", some[3])))])
            number = longest_wait(one, when, then)
            found = judge_answer(one, when, then)
            self.assertTrue(found.shows(one, when, then))
            self.assertEqual(found.number if found else None, number)
            seen.add(number)
        self.assertTrue({None, 0, 1, 2, 3} <= seen, seen)

    def test_sixteen_registers_and_eight_inputs(self):
        since = time.perf_counter()
        ins = tuple(f"i{at}" for at in range(8))
        held = [("r0", 0, "g")] + [(f"r{at}", 0, f"r{at - 1}") for at in range(1, 16)]
        line = Circuit(ins, tuple(held), (("g", "or", ins),), ())
        found = judge_answer(line, ("name", "i5"), ("name", "r15"))
        self.assertEqual(found.number, 16)
        self.assertTrue(found.shows(line, ("name", "i5"), ("name", "r15")))
        gates = [(f"g{at}", "xor", (f"r{at}", f"i{at % 8}", f"n{at}")) for at in range(16)]
        gates += [(f"n{at}", "and", (f"r{(7 * at + 1) % 16}", f"i{(at + 3) % 8}")) for at in range(16)]
        mixed = Circuit(ins, tuple((f"r{at}", 0, f"g{at}") for at in range(16)), tuple(gates), ())
        found = judge_answer(mixed, ("name", "r4"), ("name", "r5"))
        self.assertFalse(found)
        self.assertTrue(found.shows(mixed, ("name", "r4"), ("name", "r5")))
        self.assertLess(time.perf_counter() - since, 60)


class TestShowing(unittest.TestCase):
    def test_other_numbers_and_lists(self):
        right = judge_answer(LINE, ASK, COME)

        def shows(number, rows, layers):
            return Within(number, rows, layers).shows(LINE, ASK, COME)
        self.assertTrue(shows(3, right.rows, right.layers))
        for number in (-2, -1, 0, 1, 2, 4, 10**9):
            self.assertFalse(shows(number, right.rows, right.layers))
        self.assertFalse(shows(2, right.rows, right.layers[:-1]))
        self.assertFalse(shows(2, right.rows, right.layers[1:]))
        self.assertFalse(shows(2, right.rows[:2], right.layers[:3] + right.layers[4:]))
        self.assertFalse(shows(4, right.rows, right.layers + right.layers[-1:]))
        more = [{"ask": 0}] + right.rows
        self.assertFalse(shows(4, more, right.layers + right.layers[-1:]), "a number that is too great")
        self.assertFalse(shows(0, [], []))
        self.assertFalse(shows(-1, [], right.layers[-1:]))
        self.assertFalse(shows(-2, [], []))

    def test_other_sets(self):
        right = judge_answer(LINE, ASK, COME)
        order = ("r", "s", "t")
        every, none = Diagram(order, (), -2), Diagram(order, (), -1)

        def shows(at, layer):
            layers = list(right.layers)
            layers[at] = layer
            return Within(3, right.rows, layers).shows(LINE, ASK, COME)
        self.assertEqual(right.layers[0], every)
        self.assertTrue(shows(1, right.layers[1]))
        for at in range(4):
            self.assertFalse(shows(at, none))
            self.assertFalse(shows(at, Diagram(order[::-1], right.layers[at].rows, right.layers[at].root)))
        self.assertFalse(shows(4, every))
        self.assertFalse(shows(4, Diagram(("r", "s"), (), -1)))
        self.assertFalse(shows(3, every))
        part = Diagram.of(("and", (("name", "r"), ("name", "s"))), order)
        self.assertFalse(shows(0, part), "without the starts")
        self.assertFalse(shows(0, Diagram.of(("not", ("name", "t")), order)), "not closed")
        first = Diagram.of(("and", tuple(("not", ("name", name)) for name in order)), order)
        self.assertFalse(Within(0, [], [first, none]).shows(LINE, NO, NO), "not closed, but nothing waits")
        self.assertTrue(Within(0, [], [every, none]).shows(LINE, NO, NO))
        # r is 1 behind the first tick of a wait; more states may stand there, if what follows has those behind them.
        self.assertEqual(right.layers[1], Diagram.of(("name", "r"), order))
        larger = Diagram.of(("or", (("name", "r"), ("and", (("name", "s"), ("name", "t"))))), order)
        self.assertTrue(shows(1, larger))
        self.assertFalse(shows(1, every))
        self.assertFalse(shows(1, part))
        self.assertFalse(shows(2, part))

    def test_a_set_that_is_larger_than_what_is_reached(self):
        # e is always 0; the states with 1 there come back to themselves, and are waits that never end.
        one = Circuit(("a",), (("r", 0, "a"), ("e", 0, "e")), (("g", "or", ("r", "e")), ("n", "not", ("e",))), ())
        when, then = ("name", "a"), ("and", (("name", "r"), ("name", "n")))
        found = judge_answer(one, when, then)
        self.assertEqual(found.number, 1)
        self.assertTrue(found.shows(one, when, then))
        found.layers[0] = Diagram(("r", "e"), (), -2)
        self.assertFalse(found.shows(one, when, then))

    def test_other_rows(self):
        right = judge_answer(LINE, ASK, COME)
        ask, none = {"ask": 1}, {"ask": 0}
        for rows, told in (([ask, none, none], True), ([none, ask, ask, ask], True), ([none] * 3, False),
                           ([ask, none], False), ([none, ask], False), ([], False), ([ask, none, none, none], False),
                           ([ask, ask, none, none], False), ([ask, ask, ask, ask], False)):
            self.assertEqual(Within(3, rows, right.layers).shows(LINE, ASK, COME), told, rows)
        for row in ({}, {"ask": 2}, {"ask": True}, {"ask": 1, "x": 0}, None):
            self.assertRaises(BadRow, Within(3, [row, *right.rows], right.layers).shows, LINE, ASK, COME)
            self.assertRaises(BadRow, Within(-1, [row], []).shows, LINE, ASK, COME)

    def test_never(self):
        row, other = {"ask": 1}, {"ask": 0}
        for rows, wait, loop, told in (([], [], [row], False), ([], [row] * 3, [row], True), ([], [row], [row], False),
                                       ([row] * 3, [], [row], True), ([row] * 3, [row], [], False), ([], [], [], False),
                                       ([row] * 3, [], [other], False), ([other] * 3, [], [other], False),
                                       ([], [row, other, other, other], [other], True), ([], [row, other, other], [other], False), ([], [row, other], [other], False),
                                       ([], [other], [other], False), ([other], [row] * 3, [row] * 2, True)):
            self.assertEqual(Never(rows, wait, loop).shows(LINE, ASK, NO), told, [rows, wait, loop])
        self.assertFalse(Never([], [row] * 3, [row]).shows(LINE, ASK, COME), "it comes in the loop")
        self.assertFalse(Never([], [row, other, other, other], [other]).shows(LINE, ASK, COME), "it comes in the wait")
        self.assertFalse(Never([], [row] * 3, [row]).shows(LINE, NO, NO))
        for bad in ({}, {"ask": 2}, {"ask": False}, {"ask": 1, "x": 0}, None):
            for at in range(3):
                lists = [[row], [row], [row]]
                lists[at].append(bad)
                self.assertRaises(BadRow, Never(*lists).shows, LINE, ASK, NO)

    def test_errors_in_their_order(self):
        for call in (judge_answer, Within(1, [5], []).shows, Never([5], [], []).shows):
            with self.assertRaises(BadCircuit) as caught:
                call("c", "f", "f")
            self.assertIsNone(caught.exception.name)
            for when, then, name in (("f", "g", None), (("name", "y"), ("name", "x"), "y"), (ASK, "t", None),
                                     (("name", "y"), "t", "y"), (ASK, ("name", "x"), "x"), (ASK, ("name", "o"), "o"),
                                     (ASK, ("or", (("name", "z"), ("name", "x"))), "x"), (None, ("name", "x"), None)):
                with self.assertRaises(BadFormula) as caught:
                    call(LINE, when, then)
                self.assertEqual(caught.exception.name, name)

    def test_copies_and_equality(self):
        right = judge_answer(LINE, ASK, COME)
        rows, layers = tuple(dict(row) for row in right.rows), tuple(right.layers)
        found = Within(3, rows, layers)
        self.assertEqual([found.rows, found.layers], [list(rows), list(layers)])
        self.assertEqual(found, right)
        self.assertNotEqual(Within(2, rows, layers), right)
        self.assertNotEqual(Within(3, rows[:1], layers), right)
        self.assertNotEqual(Within(3, rows, layers[:1]), right)
        found.rows[0]["ask"] = 7
        self.assertEqual(right.rows, list(rows))
        row = {"ask": 1}
        kept = Never((row,), (row, row), (row,))
        self.assertEqual([kept.rows, kept.wait, kept.loop], [[row], [row, row], [row]])
        self.assertEqual(kept, Never([row], [row, row], [row]))
        for lists in (([], [row, row], [row]), ([row], [row], [row]), ([row], [row, row], [])):
            self.assertNotEqual(kept, Never(*lists))
        kept.wait[0]["ask"] = 0
        self.assertEqual(row, {"ask": 1})
        self.assertNotEqual(kept, found)
        self.assertNotEqual(found, kept)


if __name__ == "__main__":
    unittest.main()
