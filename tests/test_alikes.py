"""[7]: whether two circuits always tell the same."""

import random
import time
import unittest

from beatwires.alikes import Alike, Apart, judge_alike
from beatwires.circuits import Circuit, run
from beatwires.diagrams import Diagram
from beatwires.errors import BadCircuit, BadRow, Unlike
from tests import circuitdice

# Both hand on what came in two ticks ago; the second one holds it turned over, and has its outputs the other way round.
LATE = Circuit(("a", "b"), (("r", 0, "a"), ("s", 0, "r")), (), (("o", "s"), ("p", "b")))
OVER = Circuit(("b", "a"), (("x", 1, "n"), ("y", 1, "x"), ("z", 0, "z")), (("n", "not", ("a",)), ("m", "not", ("y",))),
               (("p", "b"), ("o", "m")))
SOON = Circuit(("a", "b"), (("r", 0, "a"),), (), (("o", "r"), ("p", "b")))
BARE = Circuit((), (), (), ())


class TestJudging(unittest.TestCase):
    def test_alike_with_ports_in_another_order(self):
        found = judge_alike(LATE, OVER)
        self.assertIsInstance(found, Alike)
        self.assertIs(bool(found), True)
        self.assertEqual(found.closed.order, ("one.r", "two.x", "one.s", "two.y", "two.z"))
        self.assertTrue(found.shows(LATE, OVER))
        self.assertEqual(judge_alike(OVER, LATE).closed.order, ("one.x", "two.r", "one.y", "two.s", "one.z"))

    def test_apart_by_as_few_rows_as_can_be(self):
        found = judge_alike(LATE, SOON)
        self.assertIsInstance(found, Apart)
        self.assertIs(bool(found), False)
        self.assertEqual(len(found.rows), 2)
        self.assertEqual(found.rows[0]["a"], 1)
        self.assertTrue(found.shows(LATE, SOON))
        self.assertTrue(found.shows(SOON, LATE))

    def test_without_registers_inputs_and_outputs(self):
        found = judge_alike(BARE, BARE)
        self.assertEqual((found.closed.order, found.closed.rows, found.closed.root), ((), (), -2))
        self.assertTrue(found.shows(BARE, BARE))
        one = Circuit((), (), (), (("o", "1"),))
        self.assertEqual(judge_alike(one, Circuit((), (), (), (("o", "0"),))).rows, [{}])
        flips = Circuit((), (("r", 0, "n"),), (("n", "not", ("r",)),), (("o", "n"),))
        self.assertEqual(judge_alike(one, flips).rows, [{}, {}])
        self.assertTrue(judge_alike(Circuit((), (("r", 1, "1"),), (), (("o", "r"),)), one))
        unseen = Circuit(("i",), (("r", 0, "i"),), (), ())
        self.assertTrue(judge_alike(unseen, Circuit(("i",), (), (), ())).shows(unseen, Circuit(("i",), (), (), ())))

    def test_against_a_search_over_all_pairs(self):
        dice = random.Random(7)
        seen = []
        for _ in range(150):
            one = circuitdice.small(dice, 0, 3)
            other = circuitdice.circuit(dice, dice.randint(0, 3), len(one.inputs), 6, 1, dice.choice("rq"))
            if dice.random() < 0.2:
                other = Circuit(one.inputs, one.registers[::-1], tuple(
                    (name, kind, nets[::-1] if kind in ("and", "or", "xor") else nets) for name, kind, nets in one.gates),
                    one.outputs)
            fewest = circuitdice.unlike_after(one, other).get((one.starts(), other.starts()))
            found = judge_alike(one, other)
            self.assertEqual(bool(found), fewest is None)
            self.assertTrue(found.shows(one, other))
            seen.append(fewest)
            if fewest is not None:
                self.assertEqual(len(found.rows), fewest)
                told = list(zip(run(one, found.rows), run(other, found.rows)))
                self.assertNotEqual(*told[-1])
                self.assertTrue(all(left == right for left, right in told[:-1]))
                continue
            inside = circuitdice.states_of(found.closed)
            order = found.closed.order
            start = circuitdice.joined(order, one, other, one.starts(), other.starts())
            self.assertIn(tuple(start[name] for name in order), inside)
        self.assertTrue({None, 1, 2, 3} <= set(seen))

    def test_many_next_states_beside_few(self):
        ins = tuple(f"i{at}" for at in range(5))
        many = Circuit(ins, tuple((f"r{at}", 0, f"i{at}") for at in range(5)), (), (("o", "r2"),))
        few = Circuit(ins, (("x", 0, "i2"),), (), (("o", "x"),))
        late = Circuit(ins, (("x", 0, "i2"), ("y", 0, "x")), (), (("o", "y"),))
        for one, other in ((many, few), (few, many)):
            found = judge_alike(one, other)
            self.assertEqual(found.closed.many(), 32)
            self.assertTrue(found.shows(one, other))
            for first, second in ((one, late), (late, other)):
                found = judge_alike(first, second)
                self.assertEqual([len(found.rows), found.rows[0]["i2"]], [2, 1])
                self.assertTrue(found.shows(first, second))
        self.assertEqual(judge_alike(many, many).closed.many(), 32)
        self.assertEqual(judge_alike(few, few).closed.many(), 2)

    def test_sixteen_registers_and_eight_inputs(self):
        ins = tuple(f"i{at}" for at in range(8))

        def mixing(kind, outputs):
            gates = [(f"g{at}", "xor", (f"r{at}", f"i{at}", f"n{at}")) for at in range(8)]
            gates += [(f"n{at}", kind, (f"r{(3 * at + 1) % 8}", f"i{(at + 3) % 8}")) for at in range(8)]
            return Circuit(ins, tuple((f"r{at}", 0, f"g{at}") for at in range(8)), tuple(gates), outputs)
        since = time.perf_counter()
        one, other = mixing("and", (("o", "0"),)), mixing("or", (("o", "0"),))
        found = judge_alike(one, other)
        self.assertGreater(found.closed.many(), 60000)
        self.assertTrue(found.shows(one, other))
        same = judge_alike(mixing("or", (("o", "r3"),)), mixing("or", (("o", "r3"),)))
        self.assertEqual(same.closed.many(), 256)
        self.assertLess(time.perf_counter() - since, 30)


class TestShowing(unittest.TestCase):
    def test_sets_that_do_not_show(self):
        right = judge_alike(LATE, OVER).closed
        order = right.order
        self.assertTrue(Alike(right).shows(LATE, OVER))
        same = ("and", tuple(("xor", (("name", f"one.{a}"), ("name", f"two.{b}"))) for a, b in ("rx", "sy")))
        self.assertTrue(Alike(Diagram.of(same, order)).shows(LATE, OVER))
        free = Diagram.of(("and", (same, ("name", "two.z"))), order)
        self.assertFalse(Alike(free).shows(LATE, OVER), "without the starts")
        known = Diagram.of(("and", (same, ("not", ("name", "one.r")))), order)
        self.assertFalse(Alike(known).shows(LATE, OVER), "not closed")
        self.assertFalse(Alike(Diagram(order, (), -2)).shows(LATE, OVER), "an unlike output")
        self.assertFalse(Alike(Diagram(order, (), -1)).shows(LATE, OVER), "empty")

    def test_sets_over_another_order(self):
        right = judge_alike(LATE, LATE)
        self.assertTrue(right.shows(LATE, LATE))
        same = ("and", tuple(("not", ("xor", (("name", f"one.{a}"), ("name", f"two.{a}")))) for a in "rs"))
        for order in (("one.r", "one.s", "two.r", "two.s"), ("two.r", "one.r", "two.s", "one.s"),
                      ("one.r", "two.r", "one.s", "two.s", "more")):
            self.assertFalse(Alike(Diagram.of(same, order)).shows(LATE, LATE))
        closed = right.closed
        self.assertFalse(Alike(Diagram(("a", "b", "c", "d"), closed.rows, closed.root)).shows(LATE, LATE))
        right.closed = Diagram((), (), -2)
        self.assertFalse(right.shows(LATE, LATE))

    def test_rows(self):
        rows = [{"a": 1, "b": 0}, {"a": 0, "b": 0}]
        self.assertTrue(Apart(rows).shows(LATE, SOON))
        self.assertTrue(Apart([{"a": 0, "b": 1}] * 3 + rows).shows(LATE, SOON), "more than needed")
        for wrong in ([], rows[:1], rows[1:], [rows[1]] * 4, rows + [rows[1]] * 2):
            self.assertFalse(Apart(wrong).shows(LATE, SOON))
        found = Apart(rows)
        found.rows.append({"a": 1})
        self.assertRaises(BadRow, found.shows, LATE, SOON)
        for row in ({"a": 1}, {"a": 1, "b": 2}, {"a": 1, "b": True}, {"a": 1, "b": 1, "c": 1}, 5, None, [0, 1]):
            self.assertRaises(BadRow, Apart(rows + [row]).shows, LATE, SOON)
            self.assertRaises(BadRow, Apart([row] + rows).shows, LATE, SOON)

    def test_copies_and_equality(self):
        rows = ({"a": 1, "b": 0}, {"a": 0, "b": 0})
        found = Apart(rows)
        self.assertEqual(found.rows, list(rows))
        found.rows[0]["a"] = 0
        self.assertEqual(rows[0], {"a": 1, "b": 0})
        given = [{"a": 1, "b": 0}]
        other = Apart(given)
        given.append({})
        given[0]["b"] = 1
        self.assertEqual(other.rows, [{"a": 1, "b": 0}])
        self.assertEqual(Apart(rows), Apart(list(rows)))
        self.assertNotEqual(Apart(rows), Apart(rows[:1]))
        self.assertNotEqual(Apart([]), [])
        closed = Diagram(("a",), (), -2)
        self.assertEqual(Alike(closed), Alike(Diagram(("a",), (), -2)))
        self.assertNotEqual(Alike(closed), Alike(Diagram(("a",), (), -1)))
        self.assertNotEqual(Alike(closed), Apart([]))
        self.assertNotEqual(Alike(closed), closed)

    def test_errors_in_their_order(self):
        other = Circuit(("a",), (), (), ())
        calls = [judge_alike, Alike(Diagram((), (), -2)).shows, Apart([5]).shows]
        for call in calls:
            for one, two in ((None, LATE), (LATE, "x"), (3, 4)):
                with self.assertRaises(BadCircuit) as caught:
                    call(one, two)
                self.assertIsNone(caught.exception.name)
            with self.assertRaises(Unlike) as caught:
                call(LATE, other)
            self.assertEqual(caught.exception.what, "inputs")
            with self.assertRaises(Unlike) as caught:
                call(other, Circuit(("a",), (), (), (("o", "a"),)))
            self.assertEqual(caught.exception.what, "outputs")


if __name__ == "__main__":
    unittest.main()
