"""[19]: plans, and what they are behind moves."""

import random
import unittest

from beatwires.planerrors import BadPlan
from beatwires.plans import Plan

ABC = {"a": 3, "b": 3, "c": 3}
RING = [("a", "b", 0), ("b", "c", 0), ("c", "a", 2)]


def some_plan(dice, gates, wires, most=2, longest=6):
    """A plan by chance."""
    words = ["a", "b", "c", "d", "e", "f", "g", "h", "i", "j", "k", "l"][:gates]
    while True:
        told = {word: dice.randint(0, longest) for word in words}
        ends = words + ["out"]
        made = [(dice.choice(ends), dice.choice(ends), dice.choice([0, 0, 1, most])) for _ in range(wires)]
        try:
            return Plan(told, made)
        except BadPlan:
            wires -= dice.random() < 0.05


def beat_by_paths(plan, moves):
    """The beat behind moves by going along all paths; None if there is none."""
    told = [many + moves.get(to, 0) - moves.get(begin, 0) for begin, to, many in plan.wires]
    if any(many < 0 for many in told):
        return None
    bare = {(begin, to) for (begin, to, _), many in zip(plan.wires, told) if many == 0}
    best = 0
    left = [(gate,) for gate in plan.delays]
    while left:
        path = left.pop()
        best = max(best, sum(plan.delays[gate] for gate in path))
        if len(path) > 1 and path[-1] == "out":
            continue
        for begin, to in bare:
            if begin == path[-1]:
                if to in path and to != "out":
                    return None
                left.append(path + (to,))
    return best


class TestPlans(unittest.TestCase):
    def test_the_example(self):
        plan = Plan(ABC, RING)
        self.assertEqual([plan.beat({}), plan.beat({"b": 1, "c": 1})], [9, 6])
        self.assertEqual([plan.registers({}), plan.registers({"b": 1, "c": 1})], [[0, 0, 2], [1, 0, 1]])
        self.assertEqual(plan.registers({"c": -1, "out": 5}), [0, -1, 3])
        self.assertIsNone(plan.beat({"c": -1}))
        self.assertIsNone(plan.beat({"a": 1}))

    def test_attributes(self):
        delays, wires = {"z": 4, "a": 1}, [("z", "out", 1)]
        plan = Plan(delays, wires)
        delays["b"] = 2
        wires.append(("a", "a", 1))
        self.assertEqual(list(plan.delays.items()), [("a", 1), ("out", 0), ("z", 4)])
        self.assertEqual(plan.wires, (("z", "out", 1),))
        self.assertEqual(list(Plan({"out": 0}, ()).delays.items()), [("out", 0)])
        self.assertEqual(Plan({"out": 0, "b": 7}, ()).delays, {"b": 7, "out": 0})
        told = Plan(ABC, RING).registers({})
        told.append(5)
        self.assertEqual(Plan(ABC, RING).registers({}), [0, 0, 2])

    def test_one_gate(self):
        plan = Plan({"a": 7}, [])
        self.assertEqual([plan.beat({}), plan.beat({"a": 5}), plan.registers({})], [7, 7, []])
        self.assertEqual(Plan({"out": 0}, []).beat({}), 0)
        # A wire of a gate to itself has its register whatever the moves.
        self.assertEqual(Plan({"a": 7}, [("a", "a", 1)]).registers({"a": -9, "out": 3}), [1])

    def test_the_outside(self):
        plan = Plan({"a": 5, "b": 4}, [("out", "a", 0), ("a", "out", 0), ("out", "b", 0), ("b", "out", 0)])
        self.assertEqual(plan.beat({}), 5, "paths do not go through the outside")
        self.assertEqual(plan.beat({"out": 0}), 5)
        self.assertIsNone(plan.beat({"a": 1}))
        plan = Plan({"a": 5, "b": 4}, [("out", "a", 0), ("a", "b", 0), ("b", "out", 1)])
        self.assertEqual([plan.beat({}), plan.beat({"b": 1}), plan.beat({"a": -1, "out": -1})], [9, 5, 5])
        self.assertEqual(plan.registers({"a": -1, "out": -1}), [0, 1, 0])
        self.assertEqual(Plan({"a": 2}, [("out", "out", 0), ("out", "out", 3)]).beat({"out": 7}), 2)

    def test_two_wires_between_the_same_gates(self):
        plan = Plan({"a": 1, "b": 2}, [("a", "b", 0), ("a", "b", 3)])
        self.assertEqual([plan.beat({}), plan.beat({"b": 1}), plan.registers({"b": 1})], [3, 2, [1, 4]])
        self.assertIsNone(plan.beat({"b": -1}))

    def test_moves_of_some(self):
        plan = Plan(ABC, RING)
        for moves in ({"b": 1, "c": 1}, {"a": 0, "b": 1, "c": 1}, {"a": -1}, {"a": 4, "b": 5, "c": 5, "out": 1}):
            before = dict(moves)
            self.assertEqual(plan.registers(moves), [1, 0, 1])
            self.assertEqual(plan.beat(moves), 6)
            self.assertEqual(moves, before)

    def test_against_all_paths(self):
        dice = random.Random(24)
        seen = set()
        for _ in range(600):
            plan = some_plan(dice, dice.randint(1, 5), dice.randint(0, 8))
            moves = {gate: dice.randint(-1, 1) for gate in plan.delays if dice.random() < 0.6}
            self.assertEqual(plan.beat(moves), beat_by_paths(plan, moves))
            self.assertEqual(plan.beat({}), beat_by_paths(plan, {}))
            seen.add(plan.beat(moves) is None)
        self.assertEqual(seen, {True, False})

    def test_equality(self):
        plan = Plan(ABC, RING)
        self.assertEqual(plan, Plan({"out": 0, "c": 3, "b": 3, "a": 3}, tuple(RING)))
        for other in (Plan(dict(ABC, a=4), RING), Plan(dict(ABC, d=4), RING), Plan(ABC, RING[::-1]), Plan(ABC, []), None, 5):
            self.assertNotEqual(plan, other)


class TestErrors(unittest.TestCase):
    def check(self, delays, wires=()):
        self.assertRaises(BadPlan, Plan, delays, wires)

    def test_delays(self):
        words = "abcdefghijklm"
        self.assertEqual(len(Plan({word: 1000 for word in words[:12]}, []).delays), 13)
        self.assertEqual(Plan({"abcdefgh": 0}, []).beat({}), 0)
        for delays in (None, 5, "a", [], ["a"], [("a", 1)], {}, {word: 1 for word in words},
                       {"": 1}, {"abcdefghi": 1}, {"A": 1}, {"a1": 1}, {"a.b": 1}, {5: 1}, {None: 1}, {("a",): 1},
                       {"a": -1}, {"a": 1001}, {"a": True}, {"a": None}, {"a": "1"}, {"a": (1,)}, {"a": 1, "b": -1},
                       {"out": 1}, {"out": True}, {"out": -1}, {"a": 2, "out": None}):
            self.check(delays)
        self.check({**{word: 1 for word in words[:12]}, "out": 0})

    def test_wires(self):
        wire = ("a", "b", 1)
        gates = {"a": 1, "b": 2}
        self.assertEqual(len(Plan(gates, [wire] * 40).wires), 40)
        self.assertEqual(Plan(gates, [("a", "b", 20), ("out", "a", 0)]).registers({}), [20, 0])
        for wires in (None, 5, "ab", {wire: 1}, wire, [wire] * 41, [list(wire)], [("a", "b")], [("a", "b", 1, 1)], [None],
                      [("a", "c", 1)], [("c", "a", 1)], [("a", 5, 1)], [(["a"], "b", 1)], [("a", None, 1)], [({}, "b", 1)],
                      [("a", "b", -1)], [("a", "b", 21)], [("a", "b", True)], [("a", "b", None)], [("a", "b", "1")],
                      [wire, ("a", "b", 30)], iter([wire])):
            self.check(gates, wires)

    def test_rings(self):
        self.check({"a": 1}, [("a", "a", 0)])
        self.check({"a": 0}, [("a", "a", 1), ("a", "a", 0)])
        self.check(ABC, [("a", "b", 0), ("b", "c", 0), ("c", "a", 0)])
        self.check(ABC, [("a", "b", 1), ("b", "c", 1), ("c", "b", 0), ("b", "c", 0)])
        for wires in ([("out", "a", 0), ("a", "out", 0)], [("out", "out", 0)],
                      [("a", "b", 0), ("b", "out", 0), ("out", "a", 0)]):
            self.assertIsNotNone(Plan(ABC, wires).beat({}))

    def test_that_nothing_stays_behind(self):
        wires = [("a", "b", 0)]
        self.check({"a": 1}, wires)
        self.assertEqual(wires, [("a", "b", 0)])


if __name__ == "__main__":
    unittest.main()
