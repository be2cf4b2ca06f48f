"""[19]: the least beats of plans."""

import itertools
import random
import time
import unittest

from beatwires.placings import Fastest, fastest, with_beat
from beatwires.planerrors import BadPlan, NoPlacing
from beatwires.plans import Plan
from tests.test_plans import ABC, RING, beat_by_paths, some_plan

PLAN = Plan(ABC, RING)


def proves(plan, found):
    """Whether a walk and its pieces, or a gate, allow no lesser beat, as [19] tells it."""
    if not found.walk:
        return found.beat == 0 or [plan.delays.get(gate) for gate in found.cuts] == [found.beat]
    wires = [plan.wires[place] for place in found.walk]
    closed = all(one[1] == other[0] for one, other in zip(wires, wires[1:] + wires[:1]))
    apart = all(first < behind for first, behind in found.cuts)
    apart = apart and all(one[1] <= other[0] for one, other in zip(found.cuts, found.cuts[1:]))
    apart = apart and found.cuts[0][0] >= 0 and found.cuts[-1][1] <= len(wires)
    if not closed or not apart:
        return False
    long = True
    for first, behind in found.cuts:
        gates = [wire[0] for wire in wires[first:behind]] + [wires[behind - 1][1]]
        long = long and "out" not in gates[1:-1] and sum(plan.delays[gate] for gate in gates) >= found.beat
    return long and len(found.cuts) > sum(wire[2] for wire in wires)


def least_by_trying(plan, most):
    """The least beat of all moves that are not more than some, up or down."""
    gates = [gate for gate in plan.delays if gate != "out"]
    beats = [plan.beat(dict(zip(gates, told))) for told in itertools.product(range(-most, most + 1), repeat=len(gates))]
    return min(beat for beat in beats if beat is not None)


class TestFinding(unittest.TestCase):
    def check(self, plan):
        found = fastest(plan)
        self.assertIsInstance(found, Fastest)
        self.assertTrue(set(found.moves) <= set(plan.delays))
        self.assertEqual(plan.beat(found.moves), found.beat)
        self.assertTrue(proves(plan, found), (plan.delays, plan.wires))
        self.assertIs(found.shows(plan), True)
        for more in (0, 1, 1000):
            self.assertLessEqual(plan.beat(with_beat(plan, found.beat + more)), found.beat + more)
        for beat in (found.beat - 1, -1, -1000):
            self.assertRaises(NoPlacing, with_beat, plan, beat)
        return found

    def test_the_example(self):
        found = self.check(PLAN)
        self.assertEqual(found.beat, 6)
        self.assertTrue(found.walk)

    def test_single_gates(self):
        found = self.check(Plan({"a": 5, "b": 9}, []))
        self.assertEqual([found.beat, found.walk, found.cuts], [9, [], ["b"]])
        found = self.check(Plan({"a": 5, "b": 9}, [("a", "b", 0), ("b", "out", 1)]))
        self.assertEqual(found.beat, 9)
        for plan in (Plan({"out": 0}, []), Plan({"a": 0}, [("a", "a", 1), ("out", "a", 0)])):
            found = self.check(plan)
            self.assertEqual(found.beat, 0)

    def test_the_outside(self):
        # Moves never change how many registers lie between the outside and itself.
        found = self.check(Plan({"a": 5, "b": 4}, [("out", "a", 0), ("a", "b", 0), ("b", "out", 0)]))
        self.assertEqual(found.beat, 9)
        found = self.check(Plan({"a": 5, "b": 4}, [("out", "a", 0), ("a", "b", 0), ("b", "out", 1)]))
        self.assertEqual(found.beat, 5)
        # Rings through the outside are no rings.
        found = self.check(Plan({"a": 5, "b": 4}, [("out", "a", 0), ("a", "out", 0), ("out", "b", 0), ("b", "out", 0)]))
        self.assertEqual(found.beat, 5)
        self.assertEqual(self.check(Plan({"a": 5}, [("out", "out", 0), ("out", "a", 0)])).beat, 5)

    def test_wires_alike(self):
        found = self.check(Plan({"a": 5, "b": 4}, [("a", "b", 0), ("a", "b", 3), ("b", "a", 1), ("a", "a", 1)]))
        self.assertEqual(found.beat, 9)
        found = self.check(Plan({"a": 5, "b": 4}, [("a", "b", 1), ("a", "b", 3), ("b", "a", 1)]))
        self.assertEqual(found.beat, 5)

    def test_against_trying_all_small_moves(self):
        dice = random.Random(25)
        seen = set()
        for at in range(300):
            plan = some_plan(dice, dice.randint(1, 3), dice.randint(1, 6))
            if at % 10 == 0:
                delays = {word: dice.randint(3, 6) for word in "abc"}
                plan = Plan(delays, [("a", "b", 0), ("b", "c", dice.randint(0, 1)), ("c", "a", dice.randint(1, 2))])
            found = self.check(plan)
            # No wire has more than two registers, so no move needs to be greater than two for each gate.
            self.assertEqual(least_by_trying(plan, 6 if len(plan.delays) < 4 else 4), found.beat)
            seen.add((bool(found.walk), plan.beat({}) > found.beat))
        self.assertEqual(len(seen), 4)

    def test_larger_ones(self):
        dice = random.Random(26)
        walks = 0
        for _ in range(150):
            plan = some_plan(dice, dice.randint(4, 12), dice.randint(4, 14), 3, 1000)
            walks += bool(self.check(plan).walk)
        self.assertGreater(walks, 10)

    def test_twelve_gates_and_forty_wires(self):
        since = time.perf_counter()
        dice = random.Random(27)
        words, walks = "abcdefghijkl", 0
        for _ in range(60):
            wires = []
            for _ in range(40):
                one, other = dice.sample(range(12), 2)
                wires.append((words[one], words[other], 0 if one < other and dice.random() < 0.7 else dice.randint(1, 20)))
            walks += bool(self.check(Plan({word: dice.randint(0, 1000) for word in words}, wires)).walk)
        chain = [(one, other, 0) for one, other in zip(words, words[1:])] + [("out", "a", 0), ("l", "out", 4)]
        self.assertEqual(self.check(Plan({word: 1000 for word in words}, chain * 2 + [("a", "a", 20)] * 8)).beat, 3000)
        self.assertGreater(walks, 3)
        self.assertLess(time.perf_counter() - since, 20)

    def test_with_beat(self):
        self.assertLessEqual(PLAN.beat(with_beat(PLAN, 6)), 6)
        self.assertLessEqual(PLAN.beat(with_beat(PLAN, 8)), 8)
        for beat in (5, 0, -1, True, False, None, "6", (6,), [6]):
            self.assertRaises(NoPlacing, with_beat, PLAN, beat)
        for beat in (True, None, "9"):
            self.assertRaises(NoPlacing, with_beat, Plan({"a": 0}, []), beat)

    def test_errors(self):
        for thing in (None, 5, "plan", ABC, (ABC, RING)):
            self.assertRaises(BadPlan, fastest, thing)
            self.assertRaises(BadPlan, with_beat, thing, 6)
            self.assertRaises(BadPlan, with_beat, thing, None)
            self.assertRaises(BadPlan, Fastest(0, {}, [], []).shows, thing)


class TestShowing(unittest.TestCase):
    MOVES = {"b": 1, "c": 1}

    def shown(self, beat=6, moves=None, walk=(0, 1, 2), cuts=((0, 1), (1, 2), (2, 3)), plan=PLAN):
        return Fastest(beat, self.MOVES if moves is None else moves, walk, cuts).shows(plan)

    def test_what_shows(self):
        self.assertTrue(self.shown())
        self.assertTrue(self.shown(walk=[1, 2, 0]))
        self.assertTrue(self.shown(moves={"a": -1, "out": 4}))
        self.assertTrue(self.shown(moves={"a": 9, "b": 10, "c": 10}))
        self.assertTrue(self.shown(walk=(0, 1, 2, 0, 1, 2), cuts=[(0, 1), (1, 2), (2, 3), (3, 4), (4, 5), (5, 6)]))
        self.assertTrue(self.shown(walk=(0, 1, 2, 0, 1, 2), cuts=[(0, 1), (1, 2), (2, 3), (3, 4), (4, 6)]))

    def test_beats(self):
        for beat in (5, 7, 9, 0, -6, 10**20):
            self.assertFalse(self.shown(beat))
        self.assertFalse(self.shown(9, {}))
        self.assertFalse(self.shown(9, {}, (0, 1, 2), ((0, 2),)))

    def test_moves(self):
        for moves in ({}, {"b": 1}, {"a": 1}, {"a": -2}, {"b": 1, "c": 1, "d": 0}, {"b": 1, "c": 1, "d": 5}):
            self.assertFalse(self.shown(moves=moves), moves)

    def test_walks(self):
        for walk in ((0, 1), (0,), (0, 2, 1), (0, 1, 3), (-3, -2, -1), (0, 1, -1), (0, 1, 2, 0), (1, 2, 0, 10**9)):
            self.assertFalse(self.shown(walk=walk), walk)
            self.assertFalse(self.shown(walk=walk, cuts=[]))
        self.assertFalse(self.shown(walk=()))

    def test_pieces(self):
        for cuts in ((), ((0, 1), (1, 2)), ((0, 1), (1, 2), (2, 2)), ((0, 1), (0, 2), (2, 3)), ((1, 2), (0, 1), (2, 3)),
                     ((0, 1), (1, 2), (2, 4)), ((-1, 1), (1, 2), (2, 3)), ((0, 1), (1, 2), (3, 2)), ((0, 0), (0, 1), (1, 3)),
                     ((0, 1), (1, 2), (1, 2), (2, 3)), ((0, 2), (1, 2), (2, 3)), ((0, 1), (1, 2), (-1, 0)),
                     (("a", "b"), (1, 2), (2, 3)), ("a", "b", "c"), ((0, 1), (1, 2), (2,)), ((0, 1), (1, 2), (2, 3, 3)),
                     ((0, 1), (1, 2), [2, 3])):
            self.assertFalse(self.shown(cuts=cuts), cuts)
        # A piece has a wire at least: an empty one has no registers to share.
        ring = Plan({"a": 5}, [("a", "a", 1)])
        self.assertTrue(Fastest(5, {}, [], ["a"]).shows(ring))
        for cuts in (((0, 1),), ((0, 1), (1, 1)), ((0, 0), (0, 1)), ((0, 0), (0, 0)), ((1, 1), (1, 1))):
            self.assertFalse(Fastest(5, {}, [0], cuts).shows(ring))
        # Too short: one of the gates takes less.
        short = Plan({"a": 3, "b": 3, "c": 2}, RING)
        self.assertFalse(self.shown(6, plan=short))
        self.assertTrue(fastest(short).shows(short))
        # As many as registers.
        more = Plan(ABC, RING[:2] + [("c", "a", 3)])
        self.assertFalse(self.shown(plan=more, moves={"b": 1, "c": 2}))
        self.assertFalse(self.shown(plan=more))

    def test_the_outside_at_ends_alone(self):
        plan = Plan({"a": 5, "b": 4}, [("out", "a", 0), ("a", "out", 0), ("out", "b", 0), ("b", "out", 0)])
        self.assertFalse(Fastest(9, {}, [0, 1, 2, 3], [(0, 4)]).shows(plan))
        self.assertTrue(Fastest(5, {}, [0, 1, 2, 3], [(0, 2)]).shows(plan))
        self.assertFalse(Fastest(5, {}, [0, 1, 2, 3], [(0, 4)]).shows(plan))
        self.assertFalse(Fastest(5, {}, [0, 1, 2, 3], [(1, 3)]).shows(plan))
        self.assertTrue(Fastest(5, {}, [0, 1, 2, 3], [(1, 2)]).shows(plan))
        self.assertFalse(Fastest(5, {}, [0, 1, 2, 3], [(2, 4)]).shows(plan))
        self.assertTrue(Fastest(5, {}, [], ["a"]).shows(plan))

    def test_gates(self):
        plan = Plan({"a": 5, "b": 9, "c": 9}, [("a", "b", 1)])
        for cuts, told in ((["b"], True), (("c",), True), (["a"], False), (["d"], False), (["out"], False), ([], False),
                           (["b", "c"], False), ([(0, 1)], False), ([5], False), ([None], False), ([["b"]], False)):
            self.assertEqual(Fastest(9, {}, [], cuts).shows(plan), told, cuts)
            self.assertFalse(Fastest(8, {}, [], cuts).shows(plan))
            self.assertFalse(Fastest(10, {}, [], cuts).shows(plan))

    def test_a_beat_of_zero(self):
        plan = Plan({"a": 0}, [("a", "a", 1), ("a", "out", 0)])
        for cuts in ([], ["a"], ["x", "y"], [(0, 5)], [5]):
            self.assertTrue(Fastest(0, {}, [], cuts).shows(plan), cuts)
        self.assertFalse(Fastest(0, {"a": 1}, [], []).shows(plan))
        self.assertFalse(Fastest(0, {}, [0], []).shows(plan))
        self.assertFalse(Fastest(0, {}, [0], [(0, 1)]).shows(plan))
        self.assertFalse(Fastest(0, {}, [], []).shows(PLAN))
        plan = Plan({"a": 0}, [("a", "out", 0), ("out", "a", 0)])
        self.assertTrue(Fastest(0, {}, [0, 1], [(0, 1)]).shows(plan))

    def test_what_is_found_and_changed(self):
        dice = random.Random(28)
        for _ in range(300):
            plan = some_plan(dice, dice.randint(2, 6), dice.randint(3, 9), 2, 9)
            found = fastest(plan)
            for _ in range(4):
                beat, moves, walk, cuts = found.beat, dict(found.moves), list(found.walk), list(found.cuts)
                what = dice.choice(["beat", "moves", "walk", "cuts"])
                if what == "beat":
                    beat += dice.choice([-1, 1])
                elif what == "moves":
                    moves[dice.choice(list(moves))] += dice.choice([-1, 1])
                elif walk and what == "walk":
                    walk[dice.randrange(len(walk))] += dice.choice([-1, 1])
                elif walk and cuts:
                    at = dice.randrange(len(cuts))
                    cuts[at] = (cuts[at][0] + dice.randint(-1, 1), cuts[at][1] + dice.randint(-1, 1))
                other = Fastest(beat, moves, walk, cuts)
                told = beat_by_paths(plan, moves) == beat and all(0 <= place < len(plan.wires) for place in walk)
                self.assertEqual(other.shows(plan), told and proves(plan, other))

    def test_copies_and_equality(self):
        moves, walk, cuts = dict(self.MOVES), [0, 1, 2], [(0, 1), (1, 2), (2, 3)]
        found = Fastest(6, moves, walk, cuts)
        moves["a"] = 5
        walk.append(1)
        cuts.append((1, 2))
        self.assertEqual([found.moves, found.walk, found.cuts], [self.MOVES, [0, 1, 2], [(0, 1), (1, 2), (2, 3)]])
        self.assertEqual(found, Fastest(6, self.MOVES, (0, 1, 2), ((0, 1), (1, 2), (2, 3))))
        for other in (Fastest(5, self.MOVES, walk[:3], cuts[:3]), Fastest(6, {}, walk[:3], cuts[:3]),
                      Fastest(6, self.MOVES, walk, cuts[:3]), Fastest(6, self.MOVES, walk[:3], cuts), None, 6):
            self.assertNotEqual(found, other)
        first = fastest(PLAN)
        first.moves["a"] = 100
        first.walk.clear()
        self.assertTrue(fastest(PLAN).shows(PLAN))
        self.assertEqual(PLAN, Plan(ABC, RING))


if __name__ == "__main__":
    unittest.main()
