"""[6]: designs are made and played."""

import random
import unittest

from beatwires.circuits import Circuit, run
from beatwires.designtexts import read_design
from beatwires.errors import BadRow, BadText, NoPart
from beatwires.making import Made, make
from beatwires.playing import Play, play
from tests import designdice


def module(*items, head="module m"):
    return "\n".join([head, *items, "end"])


def played(text, rows, *numbers, title="m"):
    """The outputs for rows, word by word, after a look whether the circuit tells the same bit by bit."""
    design = read_design(text)
    told = list(play(design, title, rows, *numbers))
    made = make(design, title, *numbers)
    seen = [made.numbers(bits) for bits in run(made.circuit, [made.row(row) for row in rows])]
    assert seen == told, (seen, told)
    return told


def values(text, rows, *numbers, word="x"):
    return [told[word] for told in played(text, rows, *numbers)]


class TestExpressions(unittest.TestCase):
    def check(self, told, width, means, a=3, b=3, head="module m"):
        """The expression of a and b means this, for all their numbers."""
        text = module(f"input a[{a}]", f"input b[{b}]", "input c", f"output x[{width}] = {told}", head=head)
        rows = [{"a": one, "b": two, "c": bit} for one in range(1 << a) for two in range(1 << b) for bit in (0, 1)]
        wanted = [means(row["a"], row["b"], row["c"]) for row in rows]
        self.assertEqual(values(text, rows, *([2, 3] if "(" in head else [])), wanted, told)

    def test_every_expression(self):
        for told, width, means in (
                ("a", 3, lambda a, b, c: a), ("0", 1, lambda a, b, c: 0), ("1", 1, lambda a, b, c: 1),
                ("5'3", 3, lambda a, b, c: 5), ("5'16", 16, lambda a, b, c: 5), ("0'2", 2, lambda a, b, c: 0),
                ("~a", 3, lambda a, b, c: 7 - a), ("a & b", 3, lambda a, b, c: a & b),
                ("a | b", 3, lambda a, b, c: a | b), ("a ^ b", 3, lambda a, b, c: a ^ b),
                ("a + b", 3, lambda a, b, c: (a + b) % 8), ("a - b", 3, lambda a, b, c: (a - b) % 8),
                ("a + 5'3 - b", 3, lambda a, b, c: (a + 5 - b) % 8), ("a - (b - 1'3)", 3, lambda a, b, c: (a - b + 1) % 8),
                ("a == b", 1, lambda a, b, c: int(a == b)), ("a < b", 1, lambda a, b, c: int(a < b)),
                ("a == 5'3", 1, lambda a, b, c: int(a == 5)), ("5'3 < a", 1, lambda a, b, c: int(5 < a)),
                ("c ? a : b", 3, lambda a, b, c: a if c else b),
                ("c ? a : c ? b : 7'3", 3, lambda a, b, c: a if c else 7),
                ("a << 0", 3, lambda a, b, c: a), ("a << 1", 3, lambda a, b, c: a * 2 % 8),
                ("a << 3", 3, lambda a, b, c: 0), ("a << 16", 3, lambda a, b, c: 0), ("a >> 0", 3, lambda a, b, c: a),
                ("a >> 2", 3, lambda a, b, c: a // 4), ("a >> 16", 3, lambda a, b, c: 0),
                ("{a, b}", 6, lambda a, b, c: a * 8 + b), ("{c, a, c, b}", 8, lambda a, b, c: ((c * 8 + a) * 2 + c) * 8 + b),
                ("{a}", 3, lambda a, b, c: a), ("{a, b, a, b, {c, c, c, c}}", 16,
                                                lambda a, b, c: ((a * 8 + b) * 8 + a) * 128 + b * 16 + c * 15),
                ("a[0]", 1, lambda a, b, c: a % 2), ("a[2]", 1, lambda a, b, c: a // 4),
                ("a[2..1]", 2, lambda a, b, c: a // 2), ("a[1..1]", 1, lambda a, b, c: a // 2 % 2),
                ("(a + b)[2..0]", 3, lambda a, b, c: (a + b) % 8), ("5'3[2..1]", 2, lambda a, b, c: 2),
                ("c[0]", 1, lambda a, b, c: c), ("1[0]", 1, lambda a, b, c: 1),
                ("all(a)", 1, lambda a, b, c: int(a == 7)), ("any(a)", 1, lambda a, b, c: int(a > 0)),
                ("odd(a)", 1, lambda a, b, c: bin(a).count("1") % 2), ("odd(c)", 1, lambda a, b, c: c),
                ("wide(a, 2)", 2, lambda a, b, c: a % 4), ("wide(a, 3)", 3, lambda a, b, c: a),
                ("wide(a, 5)", 5, lambda a, b, c: a), ("wide(a, 16)", 16, lambda a, b, c: a),
                ("wide(a, 5) + wide(b, 5)", 5, lambda a, b, c: a + b),
                ("c & a == b", 1, lambda a, b, c: c & int(a == b)),
                ("~a << 1", 3, lambda a, b, c: (7 - a) * 2 % 8), ("a + b << 1", 3, lambda a, b, c: (a + b * 2) % 8),
                ("a | b ^ a & b", 3, lambda a, b, c: a | (b ^ (a & b))), ("a == b ? a : ~b", 3,
                                                                         lambda a, b, c: a if a == b else 7 - b),
                ("a - b - b", 3, lambda a, b, c: (a - b - b) % 8)):
            self.check(told, width, means)

    def test_widths_as_names_and_constants(self):
        head = "module m(n, k)"
        self.check("wide(a, n * k + 1) + 9'(n * k + 1)", "n * k + 1", lambda a, b, c: a + 9, head=head)
        self.check("a << (n - 1)", "k", lambda a, b, c: a * 2 % 8, head=head)
        self.check("a[n..k - n]", "n", lambda a, b, c: a // 2, head=head)
        self.check("a[k - 1]", "(n - 1)", lambda a, b, c: a // 4, head=head)
        self.check("6'k + a >> n", "1 + 2", lambda a, b, c: (6 + a // 4) % 8, head=head)

    def test_by_chance(self):
        read = 0
        for seed in range(150):
            read += self.chance(random.Random(seed))
        self.assertGreater(read, 140)

    def chance(self, dice):
        ins = {"a": dice.randrange(1, 6), "b": dice.randrange(1, 6), "c": 1}
        held = {"r": dice.randrange(1, 6), "s": dice.randrange(1, 6)}
        words, wide = dice.randrange(1, 7), dice.randrange(1, 5)
        scope = designdice.Scope({**ins, **held}, {"m": (words, wide)})
        starts = {name: dice.randrange(65536) for name in ("r", "s", "m")}

        def tree(width, deep):
            return designdice.expression(dice, scope, width, deep)
        outs = {f"o{at}": tree(dice.randrange(1, 8), dice.randrange(1, 5)) for at in range(3)}
        nexts = {name: (tree(held[name], 3), dice.choice([None, tree(1, 2)])) for name in held}
        reset = tree(1, 2)
        writes = [(tree(dice.randrange(1, 5), 2), tree(wide, 2), dice.choice([None, tree(1, 2)])) for _ in range(2)]

        def when(told):
            return "" if told is None else " when " + designdice.text(told, False)
        lines = [f"input {name}[{ins[name]}]" for name in ins]
        lines += [f"register {name}[{held[name]}] = {starts[name]}" for name in held]
        lines += [f"memory m[{words}][{wide}] = {starts['m']}", f"reset r when {designdice.text(reset, False)}"]
        lines += [f"output {name}[{outs[name][1]}] = {designdice.text(outs[name], False)}" for name in outs]
        lines += [f"next {name} = {designdice.text(nexts[name][0], False)}{when(nexts[name][1])}" for name in nexts]
        lines += [f"write m[{designdice.text(place, False)}] = {designdice.text(told, False)}{when(asked)}"
                  for place, told, asked in writes]
        rows = [{name: dice.randrange(1 << ins[name]) for name in ins} for _ in range(12)]
        try:
            seen = played(module(*lines), rows)
        except BadText:
            return 0
        state = {name: starts[name] % (1 << held[name]) for name in held}
        memories = {"m": [starts["m"] % (1 << wide)] * words}
        for row, told in zip(rows, seen):
            numbers = {**row, **state}

            def means(one):
                return 1 if one is None else designdice.means(one, numbers, memories)
            self.assertEqual(told, {name: means(outs[name]) for name in outs})
            state = {name: means(nexts[name][0]) if means(nexts[name][1]) else state[name] for name in held}
            if means(reset):
                state["r"] = starts["r"] % (1 << held["r"])
            behind = list(memories["m"])
            for place, one, asked in writes:
                if means(asked) and means(place) < words:
                    behind[means(place)] = means(one)
            memories = {"m": behind}
        return 1


class TestRegistersAndMemories(unittest.TestCase):
    def test_a_register_without_next_stays(self):
        self.assertEqual(values(module("register r[3] = 13", "output x[3] = r"), [{}] * 3), [5, 5, 5])

    def test_next_when_and_reset(self):
        text = module("input go", "input stop", "register r[3] = 6", "next r = r + 1'3 when go", "reset r when stop",
                      "output x[3] = r")
        rows = [{"go": go, "stop": stop} for go, stop in ((1, 0), (0, 0), (1, 0), (1, 0), (1, 1), (0, 1), (0, 0), (1, 0))]
        self.assertEqual(values(text, rows + [{"go": 0, "stop": 0}]), [6, 7, 7, 0, 1, 6, 6, 6, 7])
        plain = module("register r[2] = 2", "next r = r + 1'2", "reset r when all(r)", "reset r when r == 1'2",
                       "output x[2] = r")
        self.assertEqual(values(plain, [{}] * 5), [2, 3, 2, 3, 2])

    def test_more_resets_than_a_gate_has_nets(self):
        pairs = [(at // 15, at % 15) for at in range(225)]
        for many in (59, 60, 61, 118, 119, 120, 178, 179, 225):
            lines = [f"reset r when a[{one}] & b[{other}]" for one, other in pairs[:many]]
            text = module("input a[15]", "input b[15]", "register r[4] = 9", "next r = r + 1'4", *lines, "output x[4] = r")
            rows = [{"a": 0, "b": 0}] + [{"a": 1 << one, "b": 1 << other} for one, other in pairs[::7] + pairs[-3:]]
            values(text, rows + rows)
            gates = make(read_design(text), "m").circuit.gates
            self.assertLessEqual(max(len(nets) for _, _, nets in gates), 60)

    def test_registers_go_on_together(self):
        text = module("register r = 1", "register s = 0", "next r = s", "next s = r", "output x[2] = {r, s}")
        self.assertEqual(values(text, [{}] * 3), [2, 1, 2])

    def test_memories(self):
        text = module("input at[3]", "input to[2]", "input go", "memory mem[5][2] = 7", "write mem[at] = to when go",
                      "output x[2] = mem[at]", "output y[2] = mem[0'1]", "output z[2] = mem[at + 1'3]")
        rows = [{"at": at, "to": to, "go": go} for at, to, go in
                ((0, 1, 1), (0, 2, 0), (4, 0, 1), (4, 3, 0), (5, 1, 1), (5, 1, 1), (7, 0, 1), (3, 2, 1), (3, 0, 0),
                 (2, 0, 1))]
        told = played(text, rows)
        self.assertEqual([one["x"] for one in told], [3, 1, 3, 0, 0, 0, 0, 3, 2, 3])
        self.assertEqual([one["y"] for one in told], [3] + [1] * 9)
        self.assertEqual([one["z"] for one in told], [3, 3, 0, 0, 0, 0, 1, 0, 0, 2])

    def test_of_several_writes_a_later_one_goes_over(self):
        text = module("input a[2]", "input b[2]", "input go", "memory mem[4][3] = 0", "write mem[a] = 3'3",
                      "write mem[b] = 5'3 when go", "output x[3] = mem[a]", "output y[3] = mem[b]")
        rows = [{"a": a, "b": b, "go": go} for a, b, go in ((1, 1, 1), (1, 2, 0), (1, 2, 1), (3, 3, 0), (3, 2, 0))]
        told = played(text, rows)
        self.assertEqual([(one["x"], one["y"]) for one in told], [(0, 0), (5, 0), (3, 0), (0, 0), (3, 5)])

    def test_memories_of_one_word_and_of_one_bit(self):
        text = module("input at[2]", "input to", "memory one[1] = 1", "memory all1[2] = 2", "write one[at] = to",
                      "write all1[to] = at[1]", "output x = one[at]", "output y = all1[at]")
        rows = [{"at": at, "to": to} for at, to in ((0, 0), (0, 1), (1, 0), (0, 0), (0, 1), (3, 1), (1, 1), (1, 0))]
        told = played(text, rows)
        self.assertEqual([one["x"] for one in told], [1, 0, 0, 1, 0, 0, 0, 0])
        self.assertEqual([one["y"] for one in told], [0, 0, 0, 0, 0, 0, 1, 0])

    def test_a_place_of_one_bit_for_many_words(self):
        text = module("input at", "memory mem[3][2] = 1", "write mem[at] = mem[at] + 1'2", "output x[2] = mem[at]",
                      "output y[2] = mem[2'2]")
        rows = [{"at": at} for at in (0, 1, 1, 0, 1)]
        self.assertEqual([(one["x"], one["y"]) for one in played(text, rows)],
                         [(1, 1), (1, 1), (2, 1), (2, 1), (3, 1)])


PARTS = """module bit(s)
  output seen = held
  input go
  register held = s
  next held = held ^ go
  output last = held & go
end
module two(s, n)
  part low = bit(s): go = up
  input up
  part high = bit(s + 1 - n): go = low.last
  output told[2] = {high.seen, low.seen}
  memory mem[2][n] = s
  write mem[up] = wide(told, n)
  register r[n] = 1
end
module m(n)
  register first = 1
  input a
  input b
  part one = two(1, n): up = a & w
  wire w = ~two.told[0]
  part two = two(0, n - 1): up = b
  register last[3] = 5
  output x[2] = one.told
  output y[2] = two.told
  memory mem[1] = 1
end
"""


class TestParts(unittest.TestCase):
    def test_parts_within_parts(self):
        rows = [{"a": a, "b": b} for a, b in ((1, 0), (1, 1), (1, 0), (0, 1), (1, 0), (1, 1), (0, 1), (1, 0))]
        told = played(PARTS, rows, 2)
        one, two, seen = 1, 0, []
        for row in rows:
            seen.append({"x": one, "y": two})
            one = (one + (row["a"] & (1 - two % 2))) % 4
            two = (two + row["b"]) % 4
        self.assertEqual([(at["x"], at["y"]) for at in told], [(at["x"], at["y"]) for at in seen])

    def test_names_and_their_order(self):
        made = make(read_design(PARTS), "m", 2)
        self.assertIsInstance(made, Made)
        self.assertIsInstance(made.circuit, Circuit)
        self.assertEqual(made.circuit.inputs, ("a", "b"))
        self.assertEqual([name for name, _ in made.circuit.outputs], ["x.0", "x.1", "y.0", "y.1"])
        self.assertEqual([told[:2] for told in made.circuit.registers], [
            ("first", 1), ("one.low.held", 1), ("one.high.held", 0), ("one.r.0", 1), ("one.r.1", 0),
            ("two.low.held", 0), ("two.high.held", 0), ("two.r", 1), ("last.0", 1), ("last.1", 0), ("last.2", 1),
            ("one.mem.0.0", 1), ("one.mem.0.1", 0), ("one.mem.1.0", 1), ("one.mem.1.1", 0), ("two.mem.0", 0),
            ("two.mem.1", 0), ("mem.0", 1)])

    def test_words(self):
        made = make(read_design(PARTS), "m", 2)
        self.assertEqual(list(made.words.items()), [
            ("a", ["a"]), ("b", ["b"]), ("x", ["x.0", "x.1"]), ("y", ["y.0", "y.1"]), ("first", ["first"]),
            ("one.low.held", ["one.low.held"]), ("one.high.held", ["one.high.held"]), ("one.r", ["one.r.0", "one.r.1"]),
            ("two.low.held", ["two.low.held"]), ("two.high.held", ["two.high.held"]), ("two.r", ["two.r"]),
            ("last", ["last.0", "last.1", "last.2"]), ("one.mem.0", ["one.mem.0.0", "one.mem.0.1"]),
            ("one.mem.1", ["one.mem.1.0", "one.mem.1.1"]), ("two.mem.0", ["two.mem.0"]),
            ("two.mem.1", ["two.mem.1"]), ("mem.0", ["mem.0"])])

    def test_rows_and_numbers(self):
        text = module("output y[4] = {b, a}", "input a[3]", "output z = b", "input b")
        made = make(read_design(text), "m")
        self.assertEqual(made.circuit.inputs, ("a.0", "a.1", "a.2", "b"))
        self.assertEqual([name for name, _ in made.circuit.outputs], ["y.0", "y.1", "y.2", "y.3", "z"])
        self.assertEqual(made.row({"b": 1, "a": 6}), {"a.0": 0, "a.1": 1, "a.2": 1, "b": 1})
        for bad in ({"a": 8, "b": 0}, {"a": 1}, {"a": 1, "b": True}, None):
            with self.assertRaises(BadRow):
                made.row(bad)
        self.assertEqual(made.numbers({"y.0": 0, "y.1": 1, "y.2": 0, "y.3": 1, "z": 1}), {"y": 10, "z": 1})
        self.assertEqual(list(made.numbers({"y.0": 0, "y.1": 1, "y.2": 0, "y.3": 1, "z": 1})), ["y", "z"])

    def test_the_example(self):
        made = make(read_design("module add(n)\n  input a[n]\n  input b[n]\n  output c[n] = a + b\nend"), "add", 3)
        self.assertEqual(made.words["c"], ["c.0", "c.1", "c.2"])
        self.assertEqual([made.numbers(seen) for seen in run(made.circuit, [made.row({"a": 5, "b": 6})])], [{"c": 3}])

    def test_inputs_in_any_order_and_items_in_any_order(self):
        text = ("module sub\n  output d[3] = a - b\n  input a[3]\n  input b[3]\nend\n"
                "module m\n  output x[3] = p.d\n  part p = sub: b = one, a = two\n  input one[3]\n  input two[3]\nend")
        self.assertEqual(values(text, [{"one": 2, "two": 7}, {"one": 1, "two": 0}]), [5, 7])

    def test_no_gate_that_is_not_needed(self):
        items = ("input a[4]", "input b", "wire far[4] = a + a - ~a", "output w[4] = a & 15'4 | 0'4 ^ 0'4",
                 "output x[4] = b ? a : a", "output y = b & ~b | b ^ b", "output z[4] = {a[0], ~a[3..1]} << 1 >> 3",
                 "output u = ~~b & (1 ? b : far[0])")
        made = make(read_design(module(*items)), "m")
        self.assertEqual([told[1:] for told in made.circuit.gates], [("not", ("a.3",))])
        self.assertEqual([net for _, net in made.circuit.outputs],
                         ["a.0", "a.1", "a.2", "a.3"] * 2 + ["0", made.circuit.gates[0][0], "0", "0", "0", "b"])

    def test_eight_deep(self):
        text = "module m0\n  input a\n  output b = ~a\nend\n"
        for at in range(1, 9):
            text += f"module m{at}\n  input a\n  part p = m{at - 1}: a = ~a\n  output b = p.b\nend\n"
        self.assertEqual([told["b"] for told in played(text, [{"a": 0}, {"a": 1}], title="m8")], [1, 0])

    def test_a_long_row_of_words(self):
        lines = ["input a[4]"] + [f"wire w{at}[4] = w{at + 1} + 1'4" for at in range(250)] + ["wire w250[4] = a",
                                                                                          "output x[4] = w0"]
        text = module(*lines)
        self.assertEqual(values(text, [{"a": 3}, {"a": 9}]), [(3 + 250) % 16, (9 + 250) % 16])

    def test_wide_words_fit(self):
        text = module("input a[16]", "input b[16]", "input c[16]", "register r[16] = 65535", "next r = a + b - c",
                      "memory mem[2][16] = 40000", "write mem[c[0]] = r ^ a", "output x[16] = r - a + mem[b[0]]",
                      "output y = a < b | b < c | r == c", "output z[16] = y ? a - b : b - a")
        dice = random.Random(1)
        rows = [{name: dice.randrange(65536) for name in "abc"} for _ in range(30)]
        told = played(text, rows)
        self.assertEqual(told[0]["x"], (65535 - rows[0]["a"] + 40000) % 65536)


class TestPlay(unittest.TestCase):
    text = module("input go", "input by[2]", "register r[2] = 1", "next r = r + by when go", "output x[2] = r",
                  "memory mem[2][2] = 0", "write mem[go] = r", "output y[2] = mem[go]")

    def test_ticks_and_start(self):
        player = Play(read_design(self.text), "m")
        self.assertEqual(player.ticks, 0)
        first = [player.tick({"go": 1, "by": 2}), player.tick({"by": 1, "go": 1}), player.tick({"go": 0, "by": 3})]
        self.assertEqual([told["x"] for told in first], [1, 3, 0])
        self.assertEqual([told["y"] for told in first], [0, 1, 0])
        self.assertEqual(player.ticks, 3)
        player.start()
        self.assertEqual(player.ticks, 0)
        self.assertEqual([player.tick({"go": 1, "by": 2}), player.tick({"by": 1, "go": 1}),
                          player.tick({"go": 0, "by": 3})], first)

    def test_players_apart(self):
        design = read_design(self.text)
        one, two = Play(design, "m"), Play(design, "m")
        one.tick({"go": 1, "by": 1})
        self.assertEqual(two.tick({"go": 1, "by": 1})["x"], 1)
        self.assertEqual(one.tick({"go": 1, "by": 1})["x"], 2)

    def test_bad_rows_change_nothing(self):
        player = Play(read_design(self.text), "m")
        player.tick({"go": 1, "by": 1})
        for bad in (None, [], {}, {"go": 1}, {"go": 1, "by": 4}, {"go": 2, "by": 0}, {"go": 1, "by": -1},
                    {"go": True, "by": 1}, {"go": 1, "by": False}, {"go": 1, "by": 1, "x": 0}, {"go": 1, "to": 1},
                    {"go": 1, "by": None}, {"go": 1, "by": "1"}, (("go", 1), ("by", 1))):
            with self.assertRaises(BadRow):
                player.tick(bad)
            self.assertEqual(player.ticks, 1)
        self.assertEqual(player.tick({"go": 0, "by": 1})["x"], 2)

    def test_rows_are_neither_changed_nor_kept(self):
        player = Play(read_design(self.text), "m")
        row = {"go": 1, "by": 1}
        player.tick(row)["x"] = 7
        self.assertEqual(row, {"go": 1, "by": 1})
        rows = [{"go": 1, "by": 1}, {"go": 1, "by": 1}]
        told = play(read_design(self.text), "m", rows)
        next(told)
        rows[1]["by"] = 9
        rows.clear()
        self.assertEqual([one["x"] for one in told], [2])

    def test_play_tells_errors_when_it_comes_to_them(self):
        design = read_design(self.text)
        told = play(design, "m", [{"go": 1, "by": 1}, {"go": 5, "by": 1}])
        self.assertEqual(next(told)["x"], 1)
        with self.assertRaises(BadRow):
            next(told)
        told = play(design, "none", [])
        with self.assertRaises(NoPart) as caught:
            next(told)
        self.assertEqual(caught.exception.name, "none")


if __name__ == "__main__":
    unittest.main()
