"""[9]: which registers may start anyhow."""

import itertools
import random
import time
import unittest

from beatwires.circuits import Circuit, run
from beatwires.diagrams import Diagram
from beatwires.errors import BadCircuit, BadRow, NoPart
from beatwires.freestarts import Bound, Free, free_sets, judge_free, least_resets
from tests import circuitdice

BARE = Circuit((), (), (), ())
# r shows what came in last, s the one before it, but only where t, which never changes, is 1.
SEEN = Circuit(("a",), (("r", 0, "a"), ("s", 0, "r"), ("t", 0, "t")), (("g", "and", ("s", "t")),), (("o", "g"),))


def free_by_trying(circuit, names, apart):
    start = circuit.starts()
    return all((start, state) not in apart for state in circuitdice.varied(circuit, names))


class TestJudging(unittest.TestCase):
    def test_the_example(self):
        told = Circuit(("a",), (("r", 0, "a"), ("s", 0, "r")), (("g", "and", ("s", "0")),), (("o", "r"), ("p", "g")))
        self.assertEqual(free_sets(told), [("s",)])
        self.assertEqual(least_resets(told), ("r",))
        self.assertEqual(judge_free(told, ["r"]).state, (1, 0))
        self.assertIs(bool(judge_free(told, ["s"])), True)
        self.assertIs(bool(judge_free(told, ("r", "s"))), False)

    def test_what_is_not_seen_up_to_now(self):
        self.assertEqual(free_sets(SEEN), [("r", "s")])
        self.assertEqual(least_resets(SEEN), ("t",))
        found = judge_free(SEEN, ["t", "s", "t"])
        self.assertEqual((found.state, len(found.rows)), ((0, 1, 1), 1))
        found = judge_free(SEEN, ["t"])
        self.assertEqual((found.state, len(found.rows)), ((0, 0, 1), 3))

    def test_all_none_and_without_registers(self):
        names = ["r", "s", "t"]
        for none in ([], ()):
            found = judge_free(SEEN, none)
            self.assertTrue(found)
            self.assertTrue(found.shows(SEEN, none))
            self.assertTrue(judge_free(BARE, none).shows(BARE, none))
        for some in (names, tuple(names), names[::-1]):
            found = judge_free(SEEN, some)
            self.assertFalse(found)
            self.assertTrue(found.shows(SEEN, some))
        self.assertEqual(free_sets(BARE), [()])
        self.assertEqual(least_resets(BARE), ())
        unseen = Circuit((), (("r", 0, "r"), ("s", 1, "r")), (), ())
        self.assertEqual([free_sets(unseen), least_resets(unseen)], [[("r", "s")], ()])
        held = Circuit((), (("r", 0, "r"), ("s", 1, "r")), (), (("o", "r"), ("p", "s")))
        self.assertEqual([free_sets(held), least_resets(held)], [[()], ("r", "s")])

    def test_the_first_of_the_least(self):
        # o shows whether all of three are 1; two that start with 0 may not both start anyhow.
        gates = (("g", "and", ("r", "s", "t")),)
        told = Circuit((), (("r", 0, "r"), ("s", 0, "s"), ("t", 0, "t")), gates, (("o", "g"),))
        self.assertEqual(free_sets(told), [("r", "s"), ("r", "t"), ("s", "t")])
        self.assertEqual(least_resets(told), ("r",))
        gates = (("g", "and", ("r", "s")), ("h", "and", ("r", "t")), ("k", "or", ("g", "h")))
        told = Circuit((), (("r", 0, "r"), ("s", 0, "s"), ("t", 0, "t")), gates, (("o", "k"),))
        self.assertEqual(free_sets(told), [("s", "t"), ("r",)])
        self.assertEqual(least_resets(told), ("r",))

    def test_against_trying_all_sets(self):
        dice = random.Random(9)
        seen = []
        for _ in range(120):
            one = circuitdice.small(dice, 0, 4)
            names = [told[0] for told in one.registers]
            apart = circuitdice.unlike_after(one, one)
            subsets = [some for many in range(len(names), -1, -1) for some in itertools.combinations(names, many)]
            free = [some for some in subsets if free_by_trying(one, some, apart)]
            greatest = [some for some in free if not any(set(some) < set(other) for other in free)]
            self.assertEqual(free_sets(one), greatest)
            rest = [tuple(name for name in names if name not in some) for some in free]
            least = [some for some in subsets if some in rest and len(some) == min(map(len, rest))]
            self.assertEqual(least_resets(one), least[0])
            some = dice.choice(subsets)
            found = judge_free(one, list(some))
            self.assertEqual(bool(found), some in free)
            self.assertTrue(found.shows(one, list(some)))
            if not found:
                states = circuitdice.varied(one, some)
                fewest = min(apart.get((one.starts(), state), 99) for state in states)
                self.assertEqual(len(found.rows), fewest)
                self.assertIn(found.state, states)
                told = list(zip(run(one, found.rows), run(one, found.rows, state=found.state)))
                self.assertNotEqual(*told[-1])
                seen.append(fewest)
            seen.append(len(greatest) > 1)
        self.assertTrue({1, 2, True, False} <= set(seen))

    def test_eight_registers_and_eight_inputs(self):
        since = time.perf_counter()
        gates = [(f"g{at}", "xor", (f"r{at}", f"i{at}", f"n{at}")) for at in range(8)]
        gates += [(f"n{at}", "and", (f"r{(3 * at + 1) % 8}", f"i{(at + 3) % 8}")) for at in range(8)]
        held = tuple((f"r{at}", 0, f"g{at}") for at in range(8))
        names = [told[0] for told in held]
        unseen = Circuit(tuple(f"i{at}" for at in range(8)), held, tuple(gates), (("o", "i3"),))
        found = judge_free(unseen, names)
        self.assertEqual(found.closed.many(), 65536)
        self.assertTrue(found.shows(unseen, names))
        self.assertEqual([free_sets(unseen), least_resets(unseen)], [[tuple(names)], ()])
        seen = Circuit(unseen.inputs, held, tuple(gates), (("o", "r3"),))
        self.assertEqual(free_sets(seen), [("r0", "r1", "r4", "r5")])
        self.assertEqual(least_resets(seen), ("r2", "r3", "r6", "r7"))
        found = judge_free(seen, names[4:])
        self.assertTrue(found.shows(seen, names))
        self.assertLess(time.perf_counter() - since, 30)


class TestShowing(unittest.TestCase):
    def test_sets_that_do_not_show(self):
        right = judge_free(SEEN, ["r", "s"])
        self.assertTrue(right.shows(SEEN, ["r", "s"]))
        self.assertTrue(right.shows(SEEN, ["s"]))
        self.assertFalse(right.shows(SEEN, ["t"]), "not all states")
        self.assertFalse(judge_free(SEEN, []).shows(SEEN, ["s"]))
        order = ("one.r", "two.r", "one.s", "two.s", "one.t", "two.t")
        self.assertEqual(right.closed.order, order)
        unseen = ("and", (("not", ("name", "one.t")), ("not", ("name", "two.t"))))
        larger = Free(Diagram.of(unseen, order))
        self.assertTrue(larger.shows(SEEN, ["r", "s"]), "larger, and still closed")
        self.assertFalse(larger.shows(SEEN, ["t"]))
        self.assertFalse(Free(Diagram(order, (), -2)).shows(SEEN, ["r", "s"]), "an unlike output")
        starts = ("and", tuple(("not", ("name", name)) for name in order))
        self.assertFalse(Free(Diagram.of(starts, order)).shows(SEEN, []), "not closed")
        self.assertFalse(Free(Diagram.of(("not", starts), order)).shows(SEEN, []), "without the starts")
        other = ("one.r", "one.s", "one.t", "two.r", "two.s", "two.t")
        self.assertFalse(Free(Diagram.of(unseen, other)).shows(SEEN, ["r", "s"]), "another order")
        for named in (tuple(f"x{at}" for at in range(6)), order[1:] + order[:1]):
            self.assertFalse(Free(Diagram(named, larger.closed.rows, larger.closed.root)).shows(SEEN, ["r", "s"]))

    def test_rows_and_states(self):
        row = {"a": 0}
        self.assertTrue(Bound((0, 1, 1), [row]).shows(SEEN, ["s", "t"]))
        self.assertTrue(Bound((1, 1, 1), [row, row]).shows(SEEN, ["s", "t", "r"]))
        self.assertFalse(Bound((1, 1, 1), [row, row]).shows(SEEN, ["s", "t"]), "no such state")
        self.assertFalse(Bound((0, 1, 1), [row, row]).shows(SEEN, ["s", "t"]))
        self.assertFalse(Bound((0, 1, 1), []).shows(SEEN, ["s", "t"]))
        self.assertFalse(Bound((0, 0, 0), [row]).shows(SEEN, ["s", "t"]))
        self.assertFalse(Bound((0, 1), [row]).shows(SEEN, ["s", "t"]))
        self.assertFalse(Bound((0, 1, 1, 1), [row]).shows(SEEN, ["s", "t"]))
        for bad in ({}, {"a": 2}, {"a": False}, {"a": 0, "b": 1}, None):
            self.assertRaises(BadRow, Bound((0, 1, 1), [row, bad]).shows, SEEN, ["s", "t"])
            self.assertRaises(BadRow, Bound((0, 1), [bad]).shows, SEEN, ["s", "t"])

    def test_errors_in_their_order(self):
        calls = [judge_free, Free(Diagram((), (), -2)).shows, Bound((), [5]).shows]
        for call in calls:
            for thing in (None, 5, "c"):
                with self.assertRaises(BadCircuit) as caught:
                    call(thing, ["x"])
                self.assertIsNone(caught.exception.name)
            for names, first in ((None, None), ("r", None), ({"r": 1}, None), (5, None), (["r", "x", "y"], "x"),
                                 (("a",), "a"), (["g", "o"], "g"), ([["r"]], ["r"]), (["r", 5, "x"], 5), ([None], None)):
                with self.assertRaises(NoPart) as caught:
                    call(SEEN, names)
                self.assertEqual(caught.exception.name, first)
        for call in (free_sets, least_resets):
            with self.assertRaises(BadCircuit) as caught:
                call("c")
            self.assertIsNone(caught.exception.name)

    def test_copies_and_equality(self):
        rows = ({"a": 0},)
        found = Bound((0, 1, 1), rows)
        self.assertEqual([found.state, found.rows], [(0, 1, 1), [{"a": 0}]])
        self.assertEqual(found, Bound((0, 1, 1), [{"a": 0}]))
        found.rows[0]["a"] = 1
        self.assertEqual(rows, ({"a": 0},))
        self.assertNotEqual(found, Bound((0, 1, 1), rows))
        self.assertNotEqual(Bound((0, 0, 1), rows), Bound((0, 1, 1), rows))
        closed = Diagram((), (), -2)
        self.assertEqual(Free(closed), Free(Diagram((), (), -2)))
        self.assertNotEqual(Free(closed), Free(Diagram((), (), -1)))
        self.assertNotEqual(Free(closed), Bound((), []))
        self.assertNotEqual(Bound((), []), Free(closed))


if __name__ == "__main__":
    unittest.main()
