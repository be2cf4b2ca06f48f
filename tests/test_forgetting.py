"""[10]: whether the starts of some registers are forgotten."""

import random
import time
import unittest

from beatwires.circuits import Circuit
from beatwires.diagrams import Diagram
from beatwires.errors import BadCircuit, BadRow, NoPart
from beatwires.forgetting import Forgets, Keeps, judge_forgetting
from tests import circuitdice

BARE = Circuit((), (), (), ())
LINE = Circuit(("a",), (("r", 0, "a"), ("s", 0, "r"), ("t", 0, "s")), (), (("o", "t"),))
# s takes a where b is 1, and stays otherwise.
STAYS = Circuit(("a", "b"), (("s", 0, "g"),), (("g", "pick", ("b", "a", "s")),), (("o", "s"),))
NOT_SEEN = Circuit(("a",), (("r", 0, "r"), ("s", 0, "a")), (), (("o", "s"),))


def pairs_by_ticks(one, names, many):
    """The sets of pairs of states behind so many ticks from the starts and each such state."""
    sets = [{(one.starts(), state) for state in circuitdice.varied(one, names)}]
    for _ in range(many):
        sets.append({(one.tick(left, row)[1], one.tick(right, row)[1]) for left, right in sets[-1]
                     for row in circuitdice.all_rows(one)})
    return sets


class TestJudging(unittest.TestCase):
    def test_a_line_of_registers(self):
        for names, number in ((["r", "s", "t"], 3), (("r",), 3), (("s",), 2), (["t"], 1), ([], 0), ((), 0)):
            found = judge_forgetting(LINE, names)
            self.assertIsInstance(found, Forgets)
            self.assertIs(bool(found), True)
            self.assertEqual(found.number, number)
            self.assertEqual(len(found.layers), number + 1)
            self.assertTrue(found.shows(LINE, names))
            self.assertEqual(found.layers[0].order, ("one.r", "two.r", "one.s", "two.s", "one.t", "two.t"))

    def test_a_least_number_of_0(self):
        for one, names in ((NOT_SEEN, ["r"]), (BARE, ()), (LINE, [])):
            found = judge_forgetting(one, names)
            self.assertEqual([found.number, len(found.layers)], [0, 1])
            self.assertTrue(found.shows(one, names))
            found.rows = [{"x": 5}, None]
            found.state = (1, 1, 1)
            self.assertTrue(found.shows(one, names), "rows and state are not looked at")

    def test_a_loop_that_leads_back(self):
        found = judge_forgetting(STAYS, ["s"])
        self.assertIsInstance(found, Keeps)
        self.assertIs(bool(found), False)
        self.assertEqual(found.state, (1,))
        self.assertEqual(found.rows, [])
        self.assertEqual([row["b"] for row in found.loop], [0])
        self.assertEqual(len(found.more), 1)
        self.assertTrue(found.shows(STAYS, ["s"]))

    def test_without_inputs(self):
        turns = Circuit((), (("r", 0, "s"), ("s", 0, "r"), ("t", 1, "r")), (), (("o", "t"),))
        found = judge_forgetting(turns, ("r",))
        self.assertFalse(found)
        self.assertEqual(len(found.loop) % 2, 0)
        self.assertTrue(found.shows(turns, ("r",)))
        found = judge_forgetting(turns, ["t"])
        self.assertEqual([found.number, found.rows, found.state], [1, [{}], (0, 0, 0)])

    def test_against_trying_all_pairs(self):
        dice = random.Random(10)
        seen = []
        for _ in range(100):
            one = circuitdice.small(dice, 1, 3)
            names = [told[0] for told in one.registers if dice.random() < 0.7]
            apart = circuitdice.unlike_after(one, one)
            sets = pairs_by_ticks(one, names, 70)
            late = [any(pair in apart for pair in pairs) for pairs in sets]
            found = judge_forgetting(one, names)
            self.assertTrue(found.shows(one, names))
            if late[-1]:
                self.assertIsInstance(found, Keeps)
                seen.append(None)
                continue
            self.assertEqual(found.number, late.index(False))
            seen.append(found.number)
            self.assertFalse(any(late[found.number:]))
            if found.number:
                self.assertIn(found.state, circuitdice.varied(one, names))
        self.assertTrue({None, 0, 1, 2} <= set(seen), set(seen))

    def test_eight_registers_and_eight_inputs(self):
        since = time.perf_counter()
        ins = tuple(f"i{at}" for at in range(8))
        line = Circuit(ins, tuple((f"r{at}", 0, f"g{at}") for at in range(8)), tuple(
            (f"g{at}", "xor", (f"r{at - 1}" if at else "0", *ins)) for at in range(8)), (("o", "r7"),))
        names = [told[0] for told in line.registers]
        found = judge_forgetting(line, names)
        self.assertEqual(found.number, 8)
        self.assertTrue(found.shows(line, names))
        gates = [(f"g{at}", "xor", (f"r{at}", f"i{at}", f"n{at}")) for at in range(8)]
        gates += [(f"n{at}", "and", (f"r{(3 * at + 1) % 8}", f"i{(at + 3) % 8}")) for at in range(8)]
        mixed = Circuit(ins, line.registers, tuple(gates), (("o", "r3"),))
        found = judge_forgetting(mixed, names)
        self.assertFalse(found)
        self.assertTrue(found.shows(mixed, names))
        unseen = Circuit(ins, line.registers, tuple(gates), ())
        found = judge_forgetting(unseen, names)
        self.assertEqual([found.number, found.closed.many()], [0, 65536])
        self.assertTrue(found.shows(unseen, names))
        self.assertLess(time.perf_counter() - since, 30)


class TestShowing(unittest.TestCase):
    def test_other_numbers_and_lists(self):
        right = judge_forgetting(LINE, ["s"])
        for number in (-1, 0, 1, 3, 10**9):
            wrong = judge_forgetting(LINE, ["s"])
            wrong.number = number
            self.assertFalse(wrong.shows(LINE, ["s"]))
        late = Forgets(3, right.layers + [right.closed], right.closed, right.state, right.rows)
        self.assertFalse(late.shows(LINE, ["s"]), "a number that is too great")
        late = Forgets(3, right.layers + [right.closed], right.closed, right.state, right.rows + [{"a": 0}])
        self.assertFalse(late.shows(LINE, ["s"]), "the same output")
        self.assertFalse(Forgets(1, right.layers[:2], right.closed, right.state, right.rows).shows(LINE, ["s"]))
        self.assertFalse(Forgets(2, [], right.closed, right.state, right.rows).shows(LINE, ["s"]))
        self.assertFalse(Forgets(-1, [], right.closed, right.state, right.rows).shows(LINE, ["s"]))
        self.assertFalse(Forgets(2, right.layers + right.layers[2:], right.closed, right.state, right.rows).shows(
            LINE, ["s"]))
        self.assertFalse(Forgets(2, right.layers[1:], right.closed, right.state, right.rows).shows(LINE, ["s"]))

    def test_other_sets(self):
        right = judge_forgetting(LINE, ["s"])
        order = right.closed.order
        empty, every = Diagram(order, (), -1), Diagram(order, (), -2)

        def shows(layers, closed):
            return Forgets(2, layers, closed, right.state, right.rows).shows(LINE, ["s"])
        same = ("and", tuple(("not", ("xor", (("name", f"one.{a}"), ("name", f"two.{a}")))) for a in "rst"))
        even = Diagram.of(same, order)
        self.assertTrue(shows(right.layers, right.closed))
        self.assertTrue(shows(right.layers, even), "a larger closed set")
        self.assertFalse(shows(right.layers, every))
        self.assertFalse(shows(right.layers, empty))
        self.assertFalse(shows([empty] + right.layers[1:], right.closed))
        self.assertFalse(shows(right.layers[:1] + [empty] + right.layers[2:], right.closed))
        self.assertFalse(shows(right.layers[:2] + [empty], right.closed))
        self.assertFalse(shows([every] + right.layers[1:], right.closed))
        self.assertFalse(shows(right.layers[:2] + [every], right.closed))
        self.assertTrue(shows(right.layers[:2] + [even], even), "a larger layer")
        self.assertFalse(shows(right.layers, Diagram.of(same, order[::-1])), "another order")
        named = [Diagram(tuple("abcdef"), told.rows, told.root) for told in right.layers + [right.closed]]
        self.assertFalse(shows(named[:-1], right.closed))
        self.assertFalse(shows(right.layers, named[-1]))
        self.assertFalse(shows([Diagram.of(("bit", 1), order[::-1])] + right.layers[1:], right.closed))
        self.assertFalse(Forgets(2, right.layers, right.closed, right.state, right.rows).shows(LINE, ["r", "s"]))

    def test_other_states_and_rows(self):
        right = judge_forgetting(LINE, ["s"])
        self.assertEqual(right.state, (0, 1, 0))
        more = Forgets(2, right.layers, right.closed, (1, 0, 0), [{"a": 0}] * 3)
        self.assertFalse(more.shows(LINE, ["s"]), "no such state")
        for state in ((0, 0, 0), (0, 1), (0, 1, 0, 0), ()):
            self.assertFalse(Forgets(2, right.layers, right.closed, state, right.rows).shows(LINE, ["s"]))
        for rows in ([], right.rows[:1], right.rows * 2):
            self.assertFalse(Forgets(2, right.layers, right.closed, right.state, rows).shows(LINE, ["s"]))
        held = Circuit(("a",), (("r", 0, "a"), ("s", 0, "r"), ("t", 0, "s")), (), (("o", "t"), ("p", "s")))
        one = judge_forgetting(held, ["s"])
        self.assertEqual(one.number, 2)
        self.assertFalse(Forgets(2, one.layers, one.closed, one.state, [{"a": 0}]).shows(held, ["s"]), "too few rows")

    def test_keeps(self):
        stay, take = {"a": 0, "b": 0}, {"a": 1, "b": 1}
        for rows, loop, more, told in (([], [stay], [stay], True), ([stay], [stay] * 3, [stay], True),
                                       ([], [], [stay], False), ([], [stay], [], False), ([], [take], [stay], False),
                                       ([take], [stay], [stay], False), ([], [stay], [take], True),
                                       ([], [stay], [take, stay], False), ([], [stay], [stay, take], True)):
            self.assertEqual(Keeps((1,), rows, loop, more).shows(STAYS, ["s"]), told)
        self.assertFalse(Keeps((0,), [], [stay], [stay]).shows(STAYS, ["s"]))
        self.assertFalse(Keeps((1,), [], [stay], [stay]).shows(STAYS, []))
        self.assertFalse(Keeps((1, 1), [], [stay], [stay]).shows(STAYS, ["s"]))
        # Only one of both states comes back.
        half = Circuit((), (("r", 0, "r"), ("s", 0, "n")), (("n", "xor", ("s", "r")),), (("o", "s"),))
        self.assertFalse(Keeps((1, 0), [], [{}], [{}, {}]).shows(half, ["r"]))
        self.assertTrue(Keeps((1, 0), [], [{}, {}], [{}, {}]).shows(half, ["r"]))

    def test_errors_in_their_order(self):
        right = judge_forgetting(LINE, ["s"])
        calls = [judge_forgetting, Forgets(1, [], right.closed, (), [5]).shows, Keeps((), [5], [], []).shows]
        for call in calls:
            with self.assertRaises(BadCircuit) as caught:
                call("c", 5)
            self.assertIsNone(caught.exception.name)
            for names, first in ((None, None), ("s", None), (["s", "x"], "x"), (("a",), "a"), ([5], 5)):
                with self.assertRaises(NoPart) as caught:
                    call(LINE, names)
                self.assertEqual(caught.exception.name, first)
        for row in ({}, {"a": 2}, {"a": True}, {"a": 0, "b": 1}, None):
            self.assertRaises(BadRow, Forgets(2, [], right.closed, right.state, [row]).shows, LINE, ["s"])
            good = {"a": 0}
            for at in range(3):
                lists = [[good], [good], [good]]
                lists[at].append(row)
                self.assertRaises(BadRow, Keeps((0, 1, 0), *lists).shows, LINE, ["s"])

    def test_copies_and_equality(self):
        right = judge_forgetting(LINE, ["s"])
        layers, rows = tuple(right.layers), tuple(dict(row) for row in right.rows)
        found = Forgets(2, layers, right.closed, right.state, rows)
        self.assertEqual([found.layers, found.rows], [list(layers), list(rows)])
        self.assertEqual(found, right)
        for name, value in (("number", 1), ("layers", []), ("closed", layers[0]), ("state", (0, 0, 0)), ("rows", [])):
            other = Forgets(2, layers, right.closed, right.state, rows)
            setattr(other, name, value)
            self.assertNotEqual(other, right, name)
        found.rows[0]["a"] = 1 - found.rows[0]["a"]
        self.assertEqual(right.rows, list(rows))
        kept = Keeps((1,), ({"a": 0},), ({"a": 1},), ({"a": 0},) * 2)
        self.assertEqual([kept.rows, kept.loop, kept.more], [[{"a": 0}], [{"a": 1}], [{"a": 0}] * 2])
        self.assertEqual(kept, Keeps((1,), [{"a": 0}], [{"a": 1}], [{"a": 0}] * 2))
        for name, value in (("state", (0,)), ("rows", []), ("loop", []), ("more", [])):
            other = Keeps((1,), [{"a": 0}], [{"a": 1}], [{"a": 0}] * 2)
            setattr(other, name, value)
            self.assertNotEqual(other, kept, name)
        self.assertNotEqual(kept, right)
        self.assertNotEqual(right, kept)


if __name__ == "__main__":
    unittest.main()
