"""[18]: circuits of pipes."""

import itertools
import random
import time
import unittest

from beatwires.alikes import judge_alike
from beatwires.circuits import Circuit, run
from beatwires.errors import BadFormula
from beatwires.formulas import Wire, holds
from beatwires.pipes import Pipe
from beatwires.pipewires import checked_circuit, piped_circuit, plain_circuit
from beatwires.piping import judge_pipe
from beatwires.planerrors import BadPipe
from tests import pipedice

ALL = (plain_circuit, piped_circuit, checked_circuit)
DATA, ONE, TWO = ("name", "data"), ("name", "one"), ("name", "two")


def wired_pipe(dice, registers=None, length=None):
    """A pipe by chance all of whose kinds have the same length."""
    length = length or dice.randint(1, 4)
    words = dice.sample(["add", "b", "cut", "zz"], dice.randint(1, 4))
    told = {word: (dice.randint(0, 2), length, dice.choice([None, *range(1, length)])) for word in words}
    return Pipe(registers or dice.randint(1, 4), told, holds=dice.random() < 0.6, orders=dice.random() < 0.5)


def some_results(dice, pipe):
    """None, or formulas by chance for some kinds."""
    if dice.random() < 0.3:
        return None
    told = {}
    for kind, (sources, _, _) in pipe.kinds.items():
        leaves = [DATA, ONE, TWO][:sources + 1] + [("bit", 0), ("bit", 1)]
        a, b, c = [dice.choice(leaves) for _ in range(3)]
        made = [("pick", a, b, c), ("and", (a, ("or", (b, c)))), ("not", ("xor", (a, b))), a, ("or", (a, b, c))]
        if dice.random() < 0.8:
            told[kind] = dice.choice(made)
    return told


def numbered(word, many, number):
    """The bits of a number of an input."""
    return {f"{word}.bit{at}": (number >> at) & 1 for at in range({1: 0, 2: 1, 3: 2, 4: 2}[many])}


def row_of(pipe, dice):
    """A row by chance, numbers that are too great among them."""
    row = {"write": dice.randint(0, 1), "data": dice.randint(0, 1)}
    for word, many in (("kind", len(pipe.kinds)), ("goal", pipe.registers), ("one", pipe.registers), ("two", pipe.registers)):
        row.update(numbered(word, many, dice.randint(0, 3)))
    return row


def told_by(pipe, row):
    """The instruction that a row tells."""
    def number(word, many):
        told = sum(row.get(f"{word}.bit{at}", 0) << at for at in range(2))
        return min(told, many - 1)
    kind = list(pipe.kinds)[number("kind", len(pipe.kinds))]
    sources = [number("one", pipe.registers), number("two", pipe.registers)][:pipe.kinds[kind][0]]
    return kind, number("goal", pipe.registers) if row["write"] else -1, tuple(sources)


def result_of(pipe, results, kind, data, bits):
    """The bit of the result of an instruction for those of its sources."""
    if results is not None and kind in results:
        return holds(results[kind], dict(zip(("data", "one", "two"), (data, *bits))))
    return (data + sum(bits)) % 2


class Worked:
    """What the three circuits are to tell at a tick, worked out from the ticks of issue."""

    def __init__(self, pipe, results):
        self.pipe, self.results = pipe, results
        self.watch = pipedice.Watch(pipe)
        self.bits = {-1: 0}
        self.plain = [0] * pipe.registers
        self.beside = [0] * pipe.registers

    def done(self, machine, row):
        """The result of an instruction that a plain machine does."""
        kind, goal, sources = told_by(self.pipe, row)
        told = result_of(self.pipe, self.results, kind, row["data"], [machine[source] for source in sources])
        if goal >= 0:
            machine[goal] = told
        return told

    def tick(self, row):
        """The plain result, whether the pipe takes, its result, and whether it is the same as beside."""
        instruction = told_by(self.pipe, row)
        plain = self.done(self.plain, row)
        if self.watch.is_held(instruction):
            self.watch.tick += 1
            return plain, 0, None, 1
        _, places = self.watch.issue(instruction)
        told = result_of(self.pipe, self.results, instruction[0], row["data"], [self.bits[place] for place in places])
        self.bits[len(self.watch.issued) - 1] = told
        return plain, 1, told, int(told == self.done(self.beside, row))


class TestCircuits(unittest.TestCase):
    def check(self, dice, pipe, results, many):
        rows = [row_of(pipe, dice) for _ in range(many)]
        plain, piped, checked = [make(pipe, results) for make in ALL]
        told = zip(run(plain, rows), run(piped, rows), run(checked, rows))
        worked = Worked(pipe, results)
        seen = set()
        for row, (one, two, three) in zip(rows, told):
            result, takes, seen_result, same = worked.tick(row)
            self.assertEqual(one, {"result": result})
            self.assertEqual([two["takes"], len(two)], [takes, 2])
            if takes:
                self.assertEqual(two["result"], seen_result)
            self.assertEqual(three, {"takes": takes, "same": same})
            seen.add((takes, same))
        return seen

    def test_the_example(self):
        pipe = Pipe(1, {"a": (1, 2, None)}, holds=False)
        rows = [{"write": 1, "data": 1}, {"write": 1, "data": 0}]
        self.assertEqual([told["result"] for told in run(plain_circuit(pipe), rows)], [1, 1])
        self.assertEqual([told["same"] for told in run(checked_circuit(pipe), rows)], [1, 0])
        self.assertEqual([told["same"] for told in run(checked_circuit(pipe), rows[::-1])], [1, 1])

    def test_tick_by_tick(self):
        dice = random.Random(20)
        seen = set()
        for at in range(250):
            pipe = wired_pipe(dice, 1 + at % 4)
            seen |= self.check(dice, pipe, some_results(dice, pipe), 25)
        self.assertEqual(seen, {(0, 1), (1, 0), (1, 1)})

    def test_each_length_and_way(self):
        dice = random.Random(21)
        for registers, length in itertools.product((1, 2, 3, 4), repeat=2):
            for way in (None, *range(1, length)):
                for sources, sure in itertools.product((0, 1, 2), (True, False)):
                    self.check(dice, Pipe(registers, {"a": (sources, length, way)}, holds=sure), None, 12)

    def test_what_is_held_is_issued_later(self):
        pipe = Pipe(1, {"a": (1, 3, None)})
        row = {"write": 1, "data": 1}
        told = list(run(piped_circuit(pipe), [row] * 7))
        self.assertEqual([one["takes"] for one in told], [1, 0, 0, 1, 0, 0, 1])
        self.assertEqual([one["result"] for one in told if one["takes"]], [1, 0, 1])
        # Another instruction may come in its place.
        told = list(run(piped_circuit(Pipe(2, {"a": (1, 3, None)})), [
            {"write": 1, "data": 1, "goal.bit0": 0, "one.bit0": 0, "two.bit0": 0},
            {"write": 1, "data": 0, "goal.bit0": 1, "one.bit0": 0, "two.bit0": 0},
            {"write": 0, "data": 0, "goal.bit0": 1, "one.bit0": 1, "two.bit0": 0},
            {"write": 0, "data": 0, "goal.bit0": 0, "one.bit0": 0, "two.bit0": 1}]))
        self.assertEqual([one["takes"] for one in told], [1, 0, 1, 1])
        self.assertEqual([told[2]["result"], told[3]["result"]], [0, 1])

    def test_inputs(self):
        for many, names in ((1, []), (2, ["bit0"]), (3, ["bit0", "bit1"]), (4, ["bit0", "bit1"])):
            for kinds, others in ((1, []), (2, ["bit0"]), (3, ["bit0", "bit1"]), (4, ["bit0", "bit1"])):
                pipe = Pipe(many, {word: (0, 2, None) for word in "abcd"[:kinds]})
                asked = ["write", "data"] + [f"kind.{bit}" for bit in others]
                asked += [f"{word}.{bit}" for word in ("goal", "one", "two") for bit in names]
                for make in ALL:
                    self.assertEqual(list(make(pipe).inputs), asked)
        self.assertEqual([[name for name, _ in make(Pipe(1, {"a": (0, 1, None)})).outputs] for make in ALL],
                         [["result"], ["takes", "result"], ["takes", "same"]])

    def test_numbers_that_are_too_great(self):
        pipe = Pipe(3, {"a": (0, 1, None), "b": (1, 1, None), "c": (2, 1, None)})
        results = {"a": ("bit", 0), "b": ONE, "c": ("bit", 1)}
        circuit = plain_circuit(pipe, results)
        base = {name: 0 for name in circuit.inputs}
        last = dict(base, write=1, **{"kind.bit0": 1, "kind.bit1": 1, "goal.bit0": 1, "goal.bit1": 1})
        for one in (2, 3):
            look = dict(base, **{"kind.bit0": 1}, **numbered("one", 3, one))
            self.assertEqual([told["result"] for told in run(circuit, [look, last, look])], [0, 1, 1])
        look = dict(base, **{"kind.bit0": 1}, **numbered("one", 3, 1))
        self.assertEqual([told["result"] for told in run(circuit, [last, look])], [1, 0])

    def test_registers(self):
        dice = random.Random(22)
        pipes = [wired_pipe(dice) for _ in range(150)] + [
            Pipe(4, {word: (2, 4, way) for word, way in zip("abcd", (1, 2, 3, None))})]
        for pipe in pipes:
            many, kinds, length = pipe.registers, len(pipe.kinds), list(pipe.kinds.values())[0][1]
            most = many + (length - 1) * (many + kinds + 2)
            plain, piped, checked = [make(pipe) for make in ALL]
            self.assertLessEqual(len(plain.registers), many)
            self.assertLessEqual(len(piped.registers), most)
            self.assertLessEqual(len(checked.registers), most + many)
            self.assertTrue(all(start == 0 for circuit in (plain, piped, checked) for _, start, _ in circuit.registers))

    def test_results(self):
        pipe = Pipe(2, {"a": (2, 2, 1), "b": (0, 2, 1)})
        rows = [{"write": 1, "data": data, "kind.bit0": kind, "goal.bit0": goal, "one.bit0": 0, "two.bit0": 1}
                for data, kind, goal in ((1, 1, 0), (1, 1, 1), (0, 0, 0), (1, 0, 0), (0, 1, 0))]
        for results, told in ((None, [1, 1, 0, 0, 0]), ({}, [1, 1, 0, 0, 0]), ({"a": DATA}, [1, 1, 0, 1, 0]),
                              ({"b": ("not", DATA)}, [0, 0, 0, 1, 1]), ({"a": ("and", (ONE, TWO)), "b": DATA}, [1, 1, 1, 1, 0]),
                              ({"a": ("pick", DATA, ("bit", 1), ("not", TWO))}, [1, 1, 0, 1, 0])):
            self.assertEqual([one["result"] for one in run(plain_circuit(pipe, results), rows)], told)
            self.assertEqual([one["result"] for one in run(piped_circuit(pipe, results), rows)], told)
            self.assertEqual([one["same"] for one in run(checked_circuit(pipe, results), rows)], [1] * 5)
        wide = {"a": ("xor", tuple([DATA, ONE, TWO] * 13))}
        self.assertEqual([one["result"] for one in run(plain_circuit(pipe, wide), rows)], [1, 1, 0, 0, 0])

    def test_right_pipes_are_always_the_same(self):
        for registers, kinds, longest in ((1, {"a": 1, "b": 1}, 3), (1, {"a": 2}, 3), (2, {"a": 1}, 2)):
            for length in range(1, longest + 1):
                ways = [None, *range(1, length)]
                for told in itertools.product(ways, repeat=len(kinds)):
                    for sure in (True, False):
                        pipe = Pipe(registers, {kind: (kinds[kind], length, way) for kind, way in zip(kinds, told)}, holds=sure)
                        # Twice the same register cancels out in an xor of all.
                        checked = checked_circuit(pipe, {kind: ("xor", (DATA, ONE)) for kind in kinds})
                        same = Circuit(checked.inputs, checked.registers, checked.gates, checked.outputs[1:])
                        plain = Circuit(checked.inputs, (), (), (("same", "1"),))
                        self.assertEqual(bool(judge_alike(same, plain)), bool(judge_pipe(pipe)), (pipe.kinds, sure))

    def test_four_registers_in_seconds(self):
        since = time.perf_counter()
        dice = random.Random(23)
        for holds_ in (True, False):
            pipe = Pipe(4, {word: (2, 4, way) for word, way in zip("abcd", (1, 2, 3, None))}, holds=holds_)
            deep = ("xor", (DATA, ("and", (ONE, ("not", TWO))), ("pick", TWO, ONE, DATA)))
            self.check(dice, pipe, {"a": deep, "d": deep}, 200)
        self.assertLess(time.perf_counter() - since, 20)


class TestErrors(unittest.TestCase):
    def check_pipe(self, name, *settings):
        for make in ALL:
            with self.assertRaises(BadPipe) as caught:
                make(*settings)
            self.assertEqual(caught.exception.name, name)

    def check_formula(self, name, pipe, results):
        for make in ALL:
            with self.assertRaises(BadFormula) as caught:
                make(pipe, results)
            self.assertEqual(caught.exception.name, name)

    def test_no_pipe(self):
        for thing in (None, 5, "pipe", {"a": (1, 2, None)}):
            self.check_pipe(None, thing)
            self.check_pipe(None, thing, 5)

    def test_kinds_of_unlike_lengths(self):
        for results in (None, {}, 5, {"z": 5}, {"a": 5}):
            self.check_pipe("kinds", Pipe(1, {"a": (1, 2, None), "b": (1, 3, None)}), results)

    def test_results_that_are_none(self):
        pipe = Pipe(1, {"a": (1, 2, None), "b": (2, 2, None)})
        for results in (5, [], (), "a", [("a", DATA)], {"c": DATA}, {"a": DATA, "c": DATA}, {"c": 5}, {"a": 5, "c": 5},
                        {5: DATA}, {None: DATA}, {("a",): DATA}, False, 0):
            self.check_pipe("results", pipe, results)

    def test_formulas_that_are_none(self):
        pipe = Pipe(1, {"c": (0, 2, None), "a": (1, 2, None), "b": (2, 2, None)})
        for formula in (None, 5, "data", Wire("data"), ("name", "Data"), ("and", (DATA,)), ["name", "data"], ("bit", 2), ("bit", True)):
            for kind in "abc":
                self.check_formula(None, pipe, {kind: formula})
        for kind, told in (("a", (DATA, ONE)), ("b", (DATA, ONE, TWO)), ("c", (DATA,))):
            for name in ("data", "one", "two", "write", "kind.bit0", "reg"):
                formula = ("xor", (DATA, ("name", name)))
                if ("name", name) in told:
                    for make in ALL:
                        self.assertIsInstance(make(pipe, {kind: formula}), Circuit)
                else:
                    self.check_formula(name, pipe, {kind: formula})
        self.check_formula("one", pipe, {"c": ("and", (TWO, ONE, DATA))})
        # The first one by its kind, whatever is wrong with it, and whichever was put in first.
        self.check_formula("two", pipe, {"c": 5, "b": 5, "a": TWO})
        self.check_formula(None, pipe, {"c": TWO, "b": 5, "a": ONE})
        self.check_formula("one", pipe, {"c": ONE, "b": TWO, "a": DATA})

    def test_arguments_stay(self):
        pipe, results = Pipe(2, {"a": (1, 2, 1)}), {"a": ("and", (DATA, ONE))}
        for make in ALL:
            circuit = make(pipe, results)
            self.assertEqual(make(pipe, results=results), circuit)
            self.assertEqual([pipe, results], [Pipe(2, {"a": (1, 2, 1)}), {"a": ("and", (DATA, ONE))}])


if __name__ == "__main__":
    unittest.main()
