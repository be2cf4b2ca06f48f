"""[1] over the whole program: what is refused, and in which order; evidence, its copies and equality; what stays as it is."""

import copy
import inspect
import unittest

from beatwires import alikes, always, circuits, diagrams, forgetting, formulas, freestarts, layers, leaning, moving
from beatwires import pipes, pipewires, piping, placings, plans, playing, making, slowness, unread, wideterms, widths
from beatwires.designtexts import read_design
from beatwires.designwriting import write_design
from beatwires.errors import (BadCircuit, BadDesign, BadDiagram, BadFormula, BadOrder, BadRow, BadState, BadText, BeatError,
                              NoPart, Unlike)
from beatwires.planerrors import BadPipe, BadPlan, BadProgram, BadTerm, BadWidth, NoPlacing

CIRCUIT = circuits.Circuit(("a",), (("r", 0, "g"), ("s", 1, "r")), (("g", "xor", ("a", "r")),), (("o", "s"), ("p", "g")))
OTHER_INPUTS = circuits.Circuit(("b",), (), (), (("q", "b"),))
OTHER_OUTPUTS = circuits.Circuit(("a",), (), (), (("q", "a"),))
FORMULA = ("or", (("name", "r"), ("name", "g")))
ROW = {"a": 1}
BAD_ROWS = [None]
ORDER = ("r", "s")
SET = diagrams.Diagram(ORDER, (), -2)
PAIRS = diagrams.Diagram(("one.r", "two.r", "one.s", "two.s"), (), -2)
PIPE = pipes.Pipe(1, {"add": (1, 2, 1)})
UNLIKE_PIPE = pipes.Pipe(1, {"add": (1, 2, 1), "b": (1, 3, 1)})
PROGRAM = [("add", 0, (0,))]
PLAN = plans.Plan({"a": 3, "b": 2}, [("a", "b", 1), ("b", "a", 1)])
X = ("name", "x")
TERM = ("+", X, ("number", 1))
WIDE = ("less", X, TERM)
DESIGN = read_design("module m(n)\n  input a[n]\n  register r[n] = 1\n  next r = r + a\n  output o[n] = r\nend\n")

# Evidence with attributes of the form that is told, whatever it shows.
ALIKE, APART = alikes.Alike(PAIRS), alikes.Apart([ROW])
DEEPEST = layers.Deepest(1, [ROW], [SET, SET])
FREE, BOUND = freestarts.Free(PAIRS), freestarts.Bound((0, 1), [ROW])
FORGETS = forgetting.Forgets(1, [PAIRS, PAIRS], PAIRS, (0, 1), [ROW])
KEEPS = forgetting.Keeps((0, 1), [ROW], [ROW], [ROW])
UNREAD, READ = unread.Unread(SET, PAIRS), unread.Read([ROW], [ROW])
HOLDS, BROKEN = always.Holds(SET), always.Broken([ROW])
WITHIN, NEVER = always.Within(1, [ROW], [SET, SET, SET]), always.Never([ROW], [ROW], [ROW])
RIGHT, WRONG = piping.Right([PIPE.start()]), piping.Wrong(PROGRAM)
CHOSEN = piping.Chosen(0, {1: PROGRAM})
SLOWEST = slowness.Slowest(1, PROGRAM, PROGRAM, {PIPE.start(): 0})
FASTEST = placings.Fastest(3, {"a": 0}, [0, 1], [(0, 1)])
ALWAYS, FAILS = widths.Always([(1, 0)]), widths.Fails(1, {"x": 1})
EVIDENCE = (ALIKE, APART, DEEPEST, FREE, BOUND, FORGETS, KEEPS, UNREAD, READ, HOLDS, BROKEN, WITHIN, NEVER, RIGHT, WRONG, CHOSEN,
            SLOWEST, FASTEST, ALWAYS, FAILS)
BAD_ROW_EVIDENCE = {
    "alikes": alikes.Apart(BAD_ROWS), "layers": layers.Deepest(1, BAD_ROWS, [SET, SET]), "freestarts": freestarts.Bound((0, 1), BAD_ROWS),
    "forgets": forgetting.Forgets(1, [PAIRS, PAIRS], PAIRS, (0, 1), BAD_ROWS), "keeps": forgetting.Keeps((0, 1), [ROW], [ROW], BAD_ROWS),
    "unread": unread.Read([ROW], BAD_ROWS), "broken": always.Broken(BAD_ROWS), "within": always.Within(1, BAD_ROWS, [SET] * 3),
    "never": always.Never([ROW], BAD_ROWS, [ROW])}


def asked(generated):
    """A call that asks for all that comes."""
    return lambda *told, **more: list(generated(*told, **more))


# Calls with a thing in the place of the circuit; the other arguments are as wrong as they can be.
CIRCUIT_CALLS = {
    "run": lambda thing: list(circuits.run(thing, BAD_ROWS, state=5)),
    "state_behind": lambda thing: circuits.state_behind(thing, BAD_ROWS, state=5),
    "judge_alike": lambda thing: alikes.judge_alike(thing, OTHER_INPUTS),
    "judge_alike_other": lambda thing: alikes.judge_alike(CIRCUIT, thing),
    "alike": lambda thing: ALIKE.shows(thing, OTHER_INPUTS),
    "alike_other": lambda thing: ALIKE.shows(CIRCUIT, thing),
    "apart": lambda thing: BAD_ROW_EVIDENCE["alikes"].shows(thing, OTHER_INPUTS),
    "apart_other": lambda thing: BAD_ROW_EVIDENCE["alikes"].shows(CIRCUIT, thing),
    "reached": layers.reached, "deepest": layers.deepest, "deepest_shows": BAD_ROW_EVIDENCE["layers"].shows,
    "judge_free": lambda thing: freestarts.judge_free(thing, 5), "free_sets": freestarts.free_sets,
    "least_resets": freestarts.least_resets, "free": lambda thing: FREE.shows(thing, 5),
    "bound": lambda thing: BAD_ROW_EVIDENCE["freestarts"].shows(thing, 5),
    "judge_forgetting": lambda thing: forgetting.judge_forgetting(thing, 5),
    "forgets": lambda thing: BAD_ROW_EVIDENCE["forgets"].shows(thing, 5), "keeps": lambda thing: BAD_ROW_EVIDENCE["keeps"].shows(thing, 5),
    "judge_unread": lambda thing: unread.judge_unread(thing, 5), "unread": lambda thing: UNREAD.shows(thing, 5),
    "read": lambda thing: BAD_ROW_EVIDENCE["unread"].shows(thing, 5), "unread_list": unread.unread,
    "stuck": lambda thing: unread.stuck(thing, 5, 5), "judge_stuck": lambda thing: unread.judge_stuck(thing, 5, 5),
    "all_tests": unread.all_tests, "judge_always": lambda thing: always.judge_always(thing, 5),
    "holds": lambda thing: HOLDS.shows(thing, 5), "broken": lambda thing: BAD_ROW_EVIDENCE["broken"].shows(thing, 5),
    "twins": always.twins, "judge_answer": lambda thing: always.judge_answer(thing, 5, 5),
    "within": lambda thing: BAD_ROW_EVIDENCE["within"].shows(thing, 5, 5), "never": lambda thing: BAD_ROW_EVIDENCE["never"].shows(thing, 5, 5),
    "forward": lambda thing: moving.forward(thing, 5), "backward": lambda thing: moving.backward(thing, 5), "lean": leaning.lean}
FORMULA_CALLS = {
    "holds": lambda thing: formulas.holds(thing, None), "bit_at": lambda thing: formulas.bit_at(thing), "wire": formulas.Wire,
    "and": lambda thing: formulas.Wire("a") & thing, "or": lambda thing: thing | formulas.Wire("a"),
    "xor": lambda thing: formulas.Wire("a") ^ thing, "implies": lambda thing: formulas.Wire("a") >> thing,
    "pick": lambda thing: formulas.Wire("a")(thing), "pick_other": lambda thing: formulas.Wire("a")(0, thing),
    "diagram": lambda thing: diagrams.Diagram.of(thing, ("a", "b")), "judge_always": lambda thing: always.judge_always(CIRCUIT, thing),
    "holds_shows": lambda thing: HOLDS.shows(CIRCUIT, thing), "broken": lambda thing: BAD_ROW_EVIDENCE["broken"].shows(CIRCUIT, thing),
    "when": lambda thing: always.judge_answer(CIRCUIT, thing, ("name", "x")),
    "then": lambda thing: always.judge_answer(CIRCUIT, FORMULA, thing),
    "within": lambda thing: BAD_ROW_EVIDENCE["within"].shows(CIRCUIT, thing, ("name", "x")),
    "within_then": lambda thing: BAD_ROW_EVIDENCE["within"].shows(CIRCUIT, FORMULA, thing),
    "never": lambda thing: BAD_ROW_EVIDENCE["never"].shows(CIRCUIT, thing, ("name", "x")),
    "never_then": lambda thing: BAD_ROW_EVIDENCE["never"].shows(CIRCUIT, FORMULA, thing),
    "plain_circuit": lambda thing: pipewires.plain_circuit(PIPE, {"add": thing}),
    "piped_circuit": lambda thing: pipewires.piped_circuit(PIPE, {"add": thing}),
    "checked_circuit": lambda thing: pipewires.checked_circuit(PIPE, {"add": thing})}
ORDER_CALLS = {"diagram": lambda thing: diagrams.Diagram(thing, None, None), "of": lambda thing: diagrams.Diagram.of(None, thing)}
PIPE_CALLS = {
    "judge_pipe": piping.judge_pipe, "is_right": lambda thing: piping.is_right(thing, 5), "right": RIGHT.shows,
    "wrong": piping.Wrong(None).shows, "cheapest_right": lambda thing: piping.cheapest_right([(1, PIPE), (1, thing)]),
    "chosen": lambda thing: piping.Chosen(0, {0: [5]}).shows([(1, PIPE), (1, thing)]), "slowest": slowness.slowest,
    "slowest_shows": slowness.Slowest(1, None, None, {}).shows, "plain_circuit": lambda thing: pipewires.plain_circuit(thing, 5),
    "piped_circuit": lambda thing: pipewires.piped_circuit(thing, 5), "checked_circuit": lambda thing: pipewires.checked_circuit(thing, 5)}
PLAN_CALLS = {"fastest": placings.fastest, "with_beat": lambda thing: placings.with_beat(thing, None), "shows": FASTEST.shows}
TERM_CALLS = {
    "word_of": lambda thing: wideterms.word_of(thing, None, None), "holds_at": lambda thing: wideterms.holds_at(thing, None, None),
    "judge_widths": widths.judge_widths, "always": ALWAYS.shows, "fails": FAILS.shows, "widths_of": widths.widths_of,
    "count_at": lambda thing: widths.count_at(thing, None)}
NONE_SUCH = (None, 5, True, "a b", [], (), {}, ("a",), object(), DESIGN, SET, ROW)


class TestRefused(unittest.TestCase):
    """What is no circuit, formula, order, pipe, plan or term: a test for each function is put in below."""

    def refused(self, call, error, things):
        for thing in things:
            with self.assertRaises(BeatError) as caught:
                call(thing)
            self.assertIs(type(caught.exception), error, thing)
            if error in (BadCircuit, BadFormula, BadPipe):
                self.assertIsNone(caught.exception.name)


def put_tests(calls, error, word, things):
    """Puts a test for each of some calls into TestRefused."""
    for name, call in calls.items():
        setattr(TestRefused, f"test_{word}_of_{name}", lambda self, call=call: self.refused(call, error, things))


put_tests(CIRCUIT_CALLS, BadCircuit, "circuit", NONE_SUCH + (PIPE, PLAN, FORMULA, (("a",), (), (), ())))
# A bit tells a formula where Wires are put together.
put_tests(FORMULA_CALLS, BadFormula, "formula", tuple(thing for thing in NONE_SUCH if thing is not True) + (CIRCUIT, ["name", "a"], ("not",)))
put_tests(ORDER_CALLS, BadOrder, "order", tuple(thing for thing in NONE_SUCH if thing not in ((), ("a",))) + (["a"], ("a", "a"), ("A",)))
put_tests(PIPE_CALLS, BadPipe, "pipe", NONE_SUCH + (CIRCUIT, PLAN, {"add": (1, 2, 1)}))
put_tests(PLAN_CALLS, BadPlan, "plan", NONE_SUCH + (CIRCUIT, PIPE, {"a": 3}))
put_tests(TERM_CALLS, BadTerm, "term", NONE_SUCH + (["name", "x"], ("name", "X"), ("+", X), ("not",), FORMULA))


class TestOrders(unittest.TestCase):
    """Two things wrong at once are told in the order of the document."""

    def told(self, error, call, *things, **more):
        with self.assertRaises(BeatError) as caught:
            call(*things, **more)
        self.assertIs(type(caught.exception), error)
        return caught.exception

    def test_making_circuits(self):
        bad = (("r", 2, "r"),)
        self.assertIsNone(self.told(BadCircuit, circuits.Circuit, ["a"], bad, bad, bad).name)
        self.assertEqual(self.told(BadCircuit, circuits.Circuit, (), bad, (("g", "or", ()),), (("o",),)).name, "r")
        self.assertEqual(self.told(BadCircuit, circuits.Circuit, (), (("r", 0, "x"), ("r", 0, "r")), (("g", "or", ()),), (("o",),)).name, "g")
        self.assertEqual(self.told(BadCircuit, circuits.Circuit, (), (("r", 0, "x"), ("r", 0, "r")), (), (("o",),)).name, "o")
        self.assertEqual(self.told(BadCircuit, circuits.Circuit, (), (("r", 0, "x"), ("r", 0, "r")), (), (("o", "x"), ("o", "x"))).name, "r")
        self.assertEqual(self.told(BadCircuit, circuits.Circuit, (), (("r", 0, "x"),), (), (("o", "x"), ("o", "x"))).name, "o")
        self.assertEqual(self.told(BadCircuit, circuits.Circuit, (), (), (("g", "not", ("g",)),), (("o", "x"),)).name, "o")

    def test_ticks_and_runs(self):
        for call in (CIRCUIT.tick, CIRCUIT.values):
            self.told(BadState, call, 5, None)
            self.told(BadRow, call, (0, 0), None)
        for call in (asked(circuits.run), circuits.state_behind):
            self.told(BadState, call, CIRCUIT, BAD_ROWS, state=5)
            self.told(BadRow, call, CIRCUIT, BAD_ROWS, state=(0, 0))
        came = circuits.run(CIRCUIT, [ROW, None])
        self.assertEqual(next(came), {"o": 1, "p": 1})
        self.told(BadRow, next, came)

    def test_formulas_and_diagrams(self):
        self.assertEqual(self.told(BadFormula, formulas.holds, ("and", (("name", "b"), ("name", "a"))), {}).name, "a")
        self.assertEqual(self.told(BadFormula, formulas.bit_at, formulas.Wire("b") & "a").name, "a")
        self.told(BadOrder, diagrams.Diagram, ["a"], [], 5)
        self.told(BadDiagram, diagrams.Diagram, ("a",), [], 5)
        self.told(BadOrder, diagrams.Diagram.of, ("name", "b"), ["a"])
        self.assertEqual(self.told(BadFormula, diagrams.Diagram.of, ("name", "b"), ("a",)).name, "b")
        self.told(BadDiagram, SET, {"r": 0})

    def test_designs(self):
        self.assertEqual(self.told(NoPart, making.make, DESIGN, "x", True, None).name, "x")
        self.assertEqual(self.told(NoPart, playing.Play, DESIGN, "x", True, None).name, "x")
        self.assertEqual(self.told(NoPart, asked(playing.play), DESIGN, "x", BAD_ROWS, True, None).name, "x")
        for call in (making.make, playing.Play, lambda *told: list(playing.play(*told[:2], BAD_ROWS, *told[2:]))):
            self.assertEqual(self.told(BadDesign, call, DESIGN, "m", True, None).why, "widths")
            self.assertEqual(self.told(BadDesign, call, DESIGN, "m", True).why, "number")
            self.assertEqual(self.told(BadDesign, call, DESIGN, "m", 17).why, "number")
        self.assertEqual([self.told(BadText, read_design, text).line for text in (5, "", "module m\n&\n'", "module m\n'")], [0, 2, 2, 2])
        self.told(BadRow, playing.Play(DESIGN, "m", 2).tick, {"a": 4})
        self.told(BadRow, making.make(DESIGN, "m", 2).row, {})

    def test_alikes(self):
        for call in (alikes.judge_alike, ALIKE.shows, BAD_ROW_EVIDENCE["alikes"].shows):
            self.assertEqual(self.told(Unlike, call, CIRCUIT, OTHER_INPUTS).what, "inputs")
            self.assertEqual(self.told(Unlike, call, CIRCUIT, OTHER_OUTPUTS).what, "outputs")
        self.told(BadRow, BAD_ROW_EVIDENCE["alikes"].shows, CIRCUIT, CIRCUIT)
        self.told(BadRow, BAD_ROW_EVIDENCE["layers"].shows, CIRCUIT)

    def test_names_of_registers(self):
        for call in (freestarts.judge_free, FREE.shows, BAD_ROW_EVIDENCE["freestarts"].shows, forgetting.judge_forgetting,
                     BAD_ROW_EVIDENCE["forgets"].shows, BAD_ROW_EVIDENCE["keeps"].shows):
            self.assertIsNone(self.told(NoPart, call, CIRCUIT, 5).name)
            self.assertIsNone(self.told(NoPart, call, CIRCUIT, "r").name)
            self.assertEqual(self.told(NoPart, call, CIRCUIT, ["r", "g", "x"]).name, "g")
            self.assertEqual(self.told(NoPart, call, CIRCUIT, ("a",)).name, "a")
        for name in ("freestarts", "forgets", "keeps"):
            self.told(BadRow, BAD_ROW_EVIDENCE[name].shows, CIRCUIT, ["r"])
        for call in (unread.judge_unread, UNREAD.shows, BAD_ROW_EVIDENCE["unread"].shows, moving.backward):
            self.assertEqual(self.told(NoPart, call, CIRCUIT, "g").name, "g")
        self.assertEqual(self.told(NoPart, moving.forward, CIRCUIT, "r").name, "r")
        self.told(BadRow, BAD_ROW_EVIDENCE["unread"].shows, CIRCUIT, "r")
        for call in (unread.stuck, unread.judge_stuck):
            for bit in (2, True, None):
                self.told(BadRow, call, CIRCUIT, "x", bit)
            self.assertEqual(self.told(NoPart, call, CIRCUIT, "a", 1).name, "a")

    def test_formulas_of_circuits(self):
        for call in (always.judge_always, HOLDS.shows, BAD_ROW_EVIDENCE["broken"].shows):
            self.assertIsNone(self.told(BadFormula, call, CIRCUIT, ("and", (("name", "x"), 5))).name)
            self.assertEqual(self.told(BadFormula, call, CIRCUIT, ("and", (("name", "x"), ("name", "o"), ("name", "a")))).name, "o")
        self.told(BadRow, BAD_ROW_EVIDENCE["broken"].shows, CIRCUIT, FORMULA)
        for call in (always.judge_answer, BAD_ROW_EVIDENCE["within"].shows, BAD_ROW_EVIDENCE["never"].shows):
            self.assertEqual(self.told(BadFormula, call, CIRCUIT, ("name", "x"), 5).name, "x")
            self.assertEqual(self.told(BadFormula, call, CIRCUIT, FORMULA, ("name", "y")).name, "y")
            self.assertIsNone(self.told(BadFormula, call, CIRCUIT, 5, ("name", "y")).name)
        for name in ("within", "never"):
            self.told(BadRow, BAD_ROW_EVIDENCE[name].shows, CIRCUIT, FORMULA, FORMULA)

    def test_pipes(self):
        self.assertEqual(self.told(BadPipe, pipes.Pipe, 5, {}, holds=1, orders=1).name, "registers")
        for call in (lambda: pipes.played(PIPE, 5), lambda: pipes.plain_reads(PIPE, [5]), lambda: piping.is_right(PIPE, 5),
                     lambda: piping.Wrong(5).shows(PIPE), lambda: piping.Chosen(9, {0: [5]}).shows([(1, PIPE)]),
                     lambda: slowness.Slowest(1, 5, PROGRAM, {}).shows(PIPE), lambda: slowness.Slowest(1, PROGRAM, 5, {}).shows(PIPE)):
            self.told(BadProgram, call)
        for call in (pipewires.plain_circuit, pipewires.piped_circuit, pipewires.checked_circuit):
            self.assertEqual(self.told(BadPipe, call, UNLIKE_PIPE, 5).name, "kinds")
            self.assertEqual(self.told(BadPipe, call, PIPE, {"add": 5, "x": 5}).name, "results")
            self.assertEqual(self.told(BadFormula, call, PIPE, {"add": ("or", (("name", "two"), ("name", "reg")))}).name, "reg")

    def test_plans_and_terms(self):
        self.told(BadPlan, plans.Plan, {"a": -1}, [("a", "a", 0)])
        self.told(NoPlacing, placings.with_beat, PLAN, 2)
        self.told(NoPlacing, placings.with_beat, PLAN, True)
        for call, thing in ((wideterms.word_of, TERM), (wideterms.holds_at, WIDE)):
            self.told(BadTerm, call, ("name", "X"), 0, None)
            self.told(BadWidth, call, thing, 0, None)
            self.told(BadTerm, call, thing, 3, None)
        self.told(BadTerm, widths.count_at, TERM, 0)
        self.told(BadWidth, widths.count_at, WIDE, 0)


class TestEvidence(unittest.TestCase):
    def test_classes(self):
        for found in EVIDENCE:
            self.assertIn("shows", vars(type(found)))
            self.assertIn("__eq__", vars(type(found)))
            for name in inspect.signature(type(found)).parameters:
                self.assertIn(name, vars(found))

    def attributes(self, found):
        return [getattr(found, name) for name in inspect.signature(type(found)).parameters]

    def test_equality(self):
        for one in EVIDENCE:
            same = type(one)(*self.attributes(one))
            self.assertIsNot(one, same)
            self.assertTrue(one == same)
            self.assertFalse(one != same)
            for other in EVIDENCE:
                self.assertEqual(one == other, one is other)
            self.assertFalse(one == tuple(self.attributes(one)))
            for name in inspect.signature(type(one)).parameters:
                other = type(one)(*self.attributes(one))
                setattr(other, name, "else")
                self.assertFalse(one == other, name)
                self.assertFalse(other == one, name)

    def test_same_attributes_of_other_classes(self):
        groups = ((alikes.Alike, freestarts.Free, always.Holds), (alikes.Apart, always.Broken), (piping.Right, widths.Always),
                  (always.Never, always.Within, layers.Deepest), (unread.Read, freestarts.Bound), (piping.Right, piping.Wrong))
        for group in groups:
            for one in group:
                for other in group:
                    many = len(inspect.signature(one).parameters)
                    if one is not other and len(inspect.signature(other).parameters) == many:
                        told = [PAIRS] if many == 1 and one in groups[0] else [[]] * many
                        self.assertFalse(one(*told) == other(*told))

    def test_tuples_and_copies(self):
        for found in EVIDENCE:
            told = self.attributes(found)
            for at, one in enumerate(told):
                if isinstance(one, list):
                    self.assertEqual(type(found)(*told[:at], tuple(one), *told[at + 1:]), found)
                if isinstance(one, (list, dict)):
                    given = copy.copy(one)
                    other = type(found)(*told[:at], given, *told[at + 1:])
                    given.clear()
                    self.assertEqual(other, found, "what is given is copied")
                    name = list(inspect.signature(type(found)).parameters)[at]
                    self.assertIsInstance(getattr(other, name), type(one))
                    self.assertIsNot(getattr(other, name), one)

    def test_rows_are_new_dicts(self):
        for found in EVIDENCE:
            for name in ("rows", "more", "loop", "wait"):
                rows = getattr(found, name, [])
                if rows == [ROW]:
                    given = dict(ROW)
                    told = [[given] if part is rows else part for part in self.attributes(found)]
                    other = type(found)(*told)
                    given["b"] = 0
                    self.assertEqual(other, found)

    def test_truths(self):
        for found in (ALIKE, FREE, FORGETS, UNREAD, HOLDS, WITHIN, RIGHT, ALWAYS):
            self.assertIs(bool(found), True)
        for found in (APART, BOUND, KEEPS, READ, BROKEN, NEVER, WRONG, FAILS):
            self.assertIs(bool(found), False)

    def test_attributes_may_be_changed(self):
        found = alikes.judge_alike(CIRCUIT, CIRCUIT)
        self.assertTrue(found.shows(CIRCUIT, CIRCUIT))
        found.closed = diagrams.Diagram(found.closed.order, (), -1)
        self.assertFalse(found.shows(CIRCUIT, CIRCUIT))
        found = layers.deepest(CIRCUIT)
        found.number += 1
        self.assertFalse(found.shows(CIRCUIT))


class TestWhatStays(unittest.TestCase):
    """Arguments stay as they are, and what is returned is new."""

    def calls(self):
        """Calls with lists of their arguments."""
        rows, names, numbers = [dict(ROW), dict(ROW)], ["r"], {"a": 1, "x": 3}
        choices = [(2, PIPE), (1, pipes.Pipe(1, {"add": (1, 2, None)}, holds=False))]
        text = write_design(DESIGN)
        return [
            (asked(circuits.run), [CIRCUIT, rows]), (circuits.state_behind, [CIRCUIT, rows]), (CIRCUIT.tick, [(0, 0), dict(ROW)]),
            (CIRCUIT.values, [(0, 0), dict(ROW)]), (formulas.holds, [FORMULA, {"r": 1, "g": 0}]),
            (asked(SET.dicts), []), (DESIGN.titles, []), (read_design, [text]),
            (asked(playing.play), [DESIGN, "m", [{"a": 1}, {"a": 2}], 2]), (making.make(DESIGN, "m", 2).row, [{"a": 3}]),
            (making.make(DESIGN, "m", 2).numbers, [{"o.0": 1, "o.1": 0}]),
            (alikes.judge_alike, [CIRCUIT, leaning.lean(CIRCUIT)]), (alikes.judge_alike, [CIRCUIT, unread.stuck(CIRCUIT, "r", 1)]),
            (layers.reached, [CIRCUIT]), (layers.deepest, [CIRCUIT]), (freestarts.judge_free, [CIRCUIT, names]),
            (freestarts.judge_free, [CIRCUIT, []]), (freestarts.free_sets, [CIRCUIT]), (freestarts.least_resets, [CIRCUIT]),
            (forgetting.judge_forgetting, [CIRCUIT, ["s"]]), (forgetting.judge_forgetting, [CIRCUIT, names]),
            (unread.judge_unread, [CIRCUIT, "r"]), (unread.unread, [CIRCUIT]), (unread.stuck, [CIRCUIT, "r", 1]),
            (unread.judge_stuck, [CIRCUIT, "g", 0]), (unread.all_tests, [CIRCUIT]), (always.judge_always, [CIRCUIT, FORMULA]),
            (always.twins, [CIRCUIT]), (always.judge_answer, [CIRCUIT, FORMULA, ("name", "s")]),
            (PIPE.instructions, []), (PIPE.follow, [PIPE.start(), PROGRAM[0]]), (pipes.played, [PIPE, list(PROGRAM)]),
            (pipes.plain_reads, [PIPE, list(PROGRAM)]), (piping.judge_pipe, [PIPE]), (piping.judge_pipe, [choices[1][1]]),
            (piping.is_right, [PIPE, list(PROGRAM)]), (piping.cheapest_right, [choices]), (slowness.slowest, [PIPE]),
            (pipewires.plain_circuit, [PIPE, {"add": ("name", "one")}]), (pipewires.piped_circuit, [PIPE, {}]),
            (pipewires.checked_circuit, [PIPE, {"add": ("name", "data")}]), (PLAN.beat, [{"a": 1}]), (PLAN.registers, [{"b": 1}]),
            (placings.fastest, [PLAN]), (placings.with_beat, [PLAN, 3]), (moving.forward, [CIRCUIT, "g"]),
            (moving.backward, [CIRCUIT, "s"]), (leaning.lean, [CIRCUIT]), (wideterms.word_of, [TERM, 5, numbers]),
            (wideterms.holds_at, [WIDE, 5, numbers]), (widths.judge_widths, [WIDE]), (widths.judge_widths, [("not", ("less", X, X))]),
            (widths.widths_of, [WIDE]), (widths.count_at, [WIDE, 5])]

    def spoil(self, thing):
        """Changes all lists and dicts in what was returned."""
        if isinstance(thing, tuple):
            for part in thing:
                self.spoil(part)
        elif isinstance(thing, list):
            for part in thing:
                self.spoil(part)
            thing.append("spoiled")
        elif isinstance(thing, dict):
            for part in list(thing.values()):
                self.spoil(part)
            thing["spoiled"] = 1
        elif type(thing) in [type(found) for found in EVIDENCE] + [widths.Widths, pipes.Played]:
            for part in vars(thing).values():
                self.spoil(part)

    def test_arguments_and_answers(self):
        for call, given in self.calls():
            before = copy.deepcopy([one for one in given if isinstance(one, (list, dict, tuple))])
            first = call(*given)
            self.assertEqual([one for one in given if isinstance(one, (list, dict, tuple))], before)
            second = call(*given)
            self.spoil(first)
            self.assertEqual(call(*given), second)
            self.assertEqual([one for one in given if isinstance(one, (list, dict, tuple))], before)

    def test_what_is_found_shows(self):
        for call, given in self.calls():
            found = call(*given)
            if type(found) in [type(one) for one in EVIDENCE] and call is not unread.judge_stuck:
                self.assertIs(found.shows(*given), True, call)

    def test_refused_calls_change_nothing(self):
        player = playing.Play(DESIGN, "m", 2)
        player.tick({"a": 1})
        with self.assertRaises(BadRow):
            player.tick({"a": 4})
        self.assertEqual([player.ticks, player.tick({"a": 0})], [1, {"o": 2}])

    def test_methods_stand_in_their_classes(self):
        asked_for = {
            circuits.Circuit: "starts values tick __len__ __contains__ __eq__", formulas.Wire: "__and__ __or__ __xor__ __invert__ "
            "__rshift__ __call__ __contains__ __eq__ __rand__ __ror__ __rxor__", diagrams.Diagram: "many dicts of __call__ __len__ __bool__ __eq__",
            type(DESIGN): "titles __len__ __contains__ __eq__", playing.Play: "tick start", making.Made: "row numbers",
            pipes.Pipe: "is_instruction instructions start follow ends_right __eq__", pipes.Played: "__eq__",
            plans.Plan: "beat registers __eq__", widths.Widths: "__contains__ __eq__"}
        for told in EVIDENCE:
            asked_for[type(told)] = "shows __eq__"
        for told, words in asked_for.items():
            for word in words.split():
                self.assertIn(word, vars(told), told)
        for module, words in (
                (slowness, "Slowest slowest"), (pipewires, "plain_circuit piped_circuit checked_circuit"), (plans, "Plan"),
                (placings, "Fastest fastest with_beat"), (moving, "forward backward"), (leaning, "lean"),
                (wideterms, "word_of holds_at"), (widths, "Always Fails judge_widths Widths widths_of count_at"),
                (piping, "Right Wrong judge_pipe is_right Chosen cheapest_right"), (pipes, "Pipe Played played plain_reads"),
                (always, "Holds Broken judge_always twins Within Never judge_answer"),
                (unread, "Unread Read judge_unread unread stuck judge_stuck all_tests"),
                (forgetting, "Forgets Keeps judge_forgetting"), (freestarts, "Free Bound judge_free free_sets least_resets"),
                (layers, "reached Deepest deepest"), (alikes, "Alike Apart judge_alike"), (making, "make Made"), (playing, "Play play"),
                (diagrams, "Diagram"), (formulas, "holds Wire bit_at"), (circuits, "Circuit run state_behind")):
            for word in words.split():
                self.assertEqual(getattr(module, word).__module__, module.__name__)


if __name__ == "__main__":
    unittest.main()
