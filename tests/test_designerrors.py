"""[6]: which modules can't be made or played, and what is told of them."""

import unittest

from beatwires.designtexts import read_design
from beatwires.errors import BadDesign, NoPart
from beatwires.making import make
from beatwires.playing import Play, play

SUB = "module sub(n)\n  input a[n]\n  input b\n  output c[n] = ~a\n  wire hid = b\n  register r = 0\nend\n"


def module(*items, head="module m"):
    return "\n".join([head, *items, "end\n"])


class TestErrors(unittest.TestCase):
    def asked(self, error, text, title, *numbers):
        """The error of make, Play and play, which are the same."""
        design = read_design(text)
        told = []
        for asked in (lambda: make(design, title, *numbers), lambda: Play(design, title, *numbers),
                      lambda: next(play(design, title, [], *numbers))):
            with self.assertRaises(error, msg=text) as caught:
                asked()
            told.append(caught.exception)
        # It is told only when it comes to it.
        play(design, title, [], *numbers)
        return told

    def bad(self, name, why, *items, head="module m", numbers=(), more=SUB, at="m"):
        for told in self.asked(BadDesign, more + module(*items, head=head), "m", *numbers):
            self.assertEqual((told.module, told.name, told.why), (at, name, why), items)

    def good(self, *items, head="module m", numbers=(), more=SUB):
        design = read_design(more + module(*items, head=head))
        make(design, "m", *numbers)
        Play(design, "m", *numbers)

    def test_no_such_module(self):
        for title in ("x", "", "sub.a", None, 5, ["sub"]):
            for told in self.asked(NoPart, SUB, title, 1, 2):
                self.assertEqual(told.name, title)

    def test_the_numbers_of_the_module(self):
        for numbers in ((), (1,), (1, 2, 3), (True, 1, 1)):
            for told in self.asked(BadDesign, module(head="module x(n, k)"), "x", *numbers):
                self.assertEqual((told.module, told.name, told.why), ("x", "x", "widths"))
        for numbers in ((1, -1), (65536, 1), (1, True), (False, 1), ("1", 1), (1, None), ((1,), 2), (1, 2.0)):
            for told in self.asked(BadDesign, module("input y[0]", head="module x(n, k)"), "x", *numbers):
                self.assertEqual((told.module, told.name, told.why), ("x", "x", "number"))
        make(read_design(module(head="module x(n, k)")), "x", 0, 65535)

    def test_twice(self):
        for item in ("input x", "output x = 1", "wire x = 0", "register x = 0", "memory x[2] = 1",
                     "part x = sub(1): a = 0, b = 0"):
            self.bad("x", "twice", "wire x = 1", item)
            self.bad("x", "twice", item, "input x")
            self.bad("x", "twice", "memory x[2] = 0", item)
            self.bad("x", "twice", "part x = sub(1): a = 0, b = 0", item)
            self.bad("x", "twice", item, head="module m(y, x)", numbers=(1, 1))
        self.bad("x", "twice", "wire x = 1", "wire x[0] = 1")
        self.bad("x", "twice", "wire x = 1", "part x = none(y)")

    def test_numbers_of_items(self):
        for word in ("x[0]", "x[17]", "x[n]", "x[1 - 2]", "x[k * 9]", "x[65535]"):
            for item in (f"input {word}", f"output {word} = 1", f"wire {word} = 1", f"register {word} = 1"):
                self.bad("x", "number", item, head="module m(k)", numbers=(2,))
            self.bad("x", "number", f"memory {word} = 1", head="module m(k)", numbers=(2,))
            self.bad("x", "number", f"memory x[3]{word[1:]} = 1", head="module m(k)", numbers=(2,))
        for start in ("65536", "0 - 1", "n", "256 * 256", "k - 3"):
            self.bad("x", "number", f"register x = {start}", head="module m(k)", numbers=(2,))
            self.bad("x", "number", f"memory x[2] = {start}", head="module m(k)", numbers=(2,))
        self.good("register x[16] = 65535", "memory y[2][k * 8] = 65536 - 1", "input z[k - 1]", head="module m(k)",
                  numbers=(2,))
        self.good("memory x[16] = 1", "memory y[1][16] = 0")

    def test_parts(self):
        self.bad("p", "module", "part p = none")
        self.bad("p", "module", "part p = none(x, y): q = ~zz")
        self.bad("p", "widths", "part p = sub: a = 0, b = 0")
        self.bad("p", "widths", "part p = sub(1, k): a = 0, b = 0")
        self.bad("p", "number", "part p = sub(k)")
        self.bad("p", "number", "part p = sub(0 - 1)")
        self.bad("p", "number", "part p = sub(65536)")
        self.bad("a", "number", "part p = sub(17)", at="sub")
        self.bad("a", "number", "part p = sub(65535)", at="sub")
        for told in ("", ": a = 0", ": b = 0", ": a = 0, a = 0", ": a = 0, b = 0, a = 0", ": a = 0, b = 0, r = 0",
                     ": a = 0, b = 0, c = 0", ": a = 0, zz = 0", ": a = 0, b = 0, zz = yy"):
            self.bad("p", "inputs", f"part p = sub(1){told}")
        self.bad("p", "inputs", "part p = none: a = 1", more="module none\nend\n")
        self.good("part p = sub(3): b = 1, a = 5'3")

    def test_too_deep(self):
        self.bad("p", "deep", "part p = m")
        self.bad("p", "deep", "wire x = zz", "part p = m")
        self.bad("p", "widths", "wire x = zz", "part p = m(1, 2)")
        text = "module m0\nend\n"
        for at in range(1, 10):
            text += f"module m{at}\n  part p{at} = m{at - 1}\nend\n"
        make(read_design(text), "m8")
        for told in self.asked(BadDesign, text, "m9"):
            self.assertEqual((told.module, told.name, told.why), ("m1", "p1", "deep"))
        ring = "module a\n  part one = b\nend\nmodule b\n  input x\n  part two = a\n  part three = none\nend\n"
        for told in self.asked(BadDesign, ring, "a"):
            self.assertEqual((told.module, told.name, told.why), ("a", "one", "deep"))

    def test_on_what_items_act(self):
        for item in ("next x = 1", "reset x when 1", "next x = zz when yy"):
            self.bad("x", "register", item)
            for told in ("input x", "output x = 1", "wire x = 0", "memory x[2] = 0", "part x = sub(1): a = 0, b = 0"):
                self.bad("x", "register", told, item)
        self.bad("x", "register", "next x = 1", head="module m(x)", numbers=(1,))
        self.bad("x", "twice", "register x = 0", "next x = 1", "next x = 0")
        self.bad("x", "twice", "next x = 1 when 1", "next x = 0 when 1", "register x = 0")
        for told in ("input x", "register x = 0", "wire y = 0", "part x = sub(1): a = 0, b = 0"):
            self.bad("x", "memory", told, "write x[0] = 1")
        self.good("next x = 1", "reset x when 1", "reset x when 0", "register x = 0", "write y[0] = 1", "write y[1] = 0",
                  "memory y[2] = 1")

    def test_names(self):
        for told in ("y", "x & y", "y[0]", "y[1..0]", "mem", "mem & x", "p", "n", "p.x", "p.a", "p.r", "p.hid", "p.zz",
                     "y.c", "x.c", "mem.c", "mem[1..0]", "mem[n]", "mem[y]", "all(mem)", "{x, mem}", "x ? y : x",
                     "x + y", "wide(y, 1)", "(y)", "~y", "y << 1", "y == x", "x & y & 5", "y & 5", "n[0]", "p[0]"):
            self.bad("out", "name", "input x", "memory mem[2] = 0", "part p = sub(1): a = x, b = x", f"output out = {told}",
                     head="module m(n)", numbers=(1,))
        self.bad("r", "name", "register r = 0", "next r = zz")
        self.bad("r", "name", "register r = 0", "next r = 1 when zz")
        self.bad("r", "name", "register r = 0", "reset r when zz")
        self.bad("r", "name", "memory r[2] = 0", "write r[zz] = 1")
        self.bad("r", "name", "memory r[2] = 0", "write r[0] = zz")
        self.bad("r", "name", "memory r[2] = 0", "write r[0] = 1 when zz")
        self.bad("p", "name", "part p = sub(1): a = 1, b = zz")
        self.good("wire a = b", "output b = p.c", "part p = sub(1): a = r, b = r", "register r = 0", "output c = b")

    def test_widths(self):
        for told in ("b", "a & b", "a | b", "a ^ b", "a + b", "a - b", "a == b", "a < b", "b ? a : a", "a ? a : b",
                     "a ? b : a", "a ? b : b", "2", "a & 3", "a == 2", "2 ? a : a", "2[0]", "{b, a}", "b[1..0]", "~b", "b << 1",
                     "wide(a, 2)", "2'2", "1'3", "all(b) + b", "{b, b, b, b, b, b}", "mem[a]", "mem[2]", "a + 1'2",
                     "p.c", "b + 1", "odd({b, b, b, b, b, b})", "any(2)"):
            self.bad("out", "width", "input a", "input b[3]", "memory mem[4][2] = 0", "part p = sub(3): a = b, b = a",
                     f"output out = {told}")
        self.bad("r", "width", "register r[3] = 0", "next r = 1")
        self.bad("r", "width", "register r[3] = 0", "next r = r when r")
        self.bad("r", "width", "register r[3] = 0", "reset r when r")
        self.bad("r", "width", "memory r[4][3] = 0", "write r[0] = 1")
        self.bad("r", "width", "memory r[4][3] = 0", "write r[3] = 1'3")
        self.bad("r", "width", "memory r[4][3] = 0", "write r[0] = 1'3 when 1'3")
        self.bad("w", "width", "wire w[2] = 1")
        self.bad("p", "width", "part p = sub(3): a = 1, b = 1")
        self.bad("p", "width", "part p = sub(3): b = 1'2, a = 1'3")
        self.good("output out[16] = {1'15, 1}", "memory r[4][3] = 0", "write r[1'16] = 1'3 when r[0] == 1'3")

    def test_numbers_of_expressions(self):
        for told in ("a[3]", "a[0 - 1]", "a[zz]", "a[b]", "a[3..0]", "a[1..2]", "a[0..zz]", "a[k..0]", "a[0..0 - 1]",
                     "a << 17", "a << zz", "a << (0 - 1)", "a >> 17", "a >> b", "wide(a, 0)", "wide(a, 17)", "wide(a, b)",
                     "2'1", "8'3", "1'0", "1'17", "1'zz", "5'b", "99999'16", "65536'16", "b[1]", "1[1]", "p.c[k]",
                     "(a + a)[3]", "{a, a}[6]", "a[a & b]", "a[~b]", "a[p.c]", "a[5'3]", "a[b & zz]", "a[mem[0]]",
                     "0'0", "mem[2'1]", "a[0][1]"):
            self.bad("out", "number", "input a[3]", "input b", "memory mem[2] = 0", "part p = sub(3): a = a, b = b",
                     f"output out = {told}", head="module m(k)", numbers=(3,))
        self.good("input a[3]", "input b[k]", "output x = a[2] & a[k - 1]", "output y[3] = a[2..0] << 16 >> 0",
                  "output z[2] = a[2..1]", "output u[16] = 65535'16", "output v[16] = wide(b, 16)", head="module m(k)",
                  numbers=(3,))

    def test_behind_all_that_an_expression_is_made_of(self):
        for told, why in (("(a + b) & zz", "width"), ("zz & (a + b)", "name"), ("2 & zz", "width"), ("zz & 2", "name"),
                          ("(a & a[5]) + (a + b)", "number"), ("a + b + zz", "width"), ("(a ? zz : a[7])", "name"),
                          ("(b ? a : 2) & zz", "width"), ("{2, zz}", "width"), ("a[9] + zz", "number"), ("zz[9]", "name"),
                          ("(a + b)[9]", "width"), ("mem[zz] & 2", "name"), ("mem[2] & zz", "width"),
                          ("wide(zz, 99)", "name"), ("zz << 99", "name"), ("(a + b) << 99", "width"), ("9'2 + zz", "number")):
            self.bad("out", why, "input a[3]", "input b", "memory mem[4][3] = 0", f"output out[3] = {told}")
        self.bad("r", "name", "register r[3] = 0", "next r = zz when 2")
        self.bad("r", "width", "register r[3] = 0", "next r = 2 when zz")
        self.bad("r", "number", "memory r[3] = 0", "write r[9'2] = zz when 2")
        self.bad("r", "width", "memory r[3] = 0", "write r[0] = 2 when zz")
        self.bad("p", "number", "part p = sub(3): b = 9'3, a = zz")

    def test_loops(self):
        self.bad("w", "loop", "wire w = ~w")
        self.bad("o", "loop", "output o = o")
        self.bad("w", "loop", "wire z = y", "wire w = v & z", "wire v = ~o", "wire y = 1", "output o = w")
        self.bad("v", "loop", "wire x = w & v", "wire v = w", "wire w = v")
        self.bad("w", "loop", "wire w[2] = {w[0], 1}")
        self.bad("w", "loop", "wire w = 1 ? 0 : w")
        self.bad("w", "loop", "memory mem[2] = 0", "wire w = mem[w]")
        self.bad("a", "loop", "part p = sub(1): a = p.c, b = 1", at="sub")
        self.bad("w", "loop", "wire w = p.c", "part p = sub(1): a = w, b = 1")
        self.bad("a", "loop", "part p = sub(1): a = w, b = 1", "wire w = p.c", at="sub")
        self.bad("a", "loop", "part p = sub(1): b = 1, a = q.c", "part q = sub(1): a = p.c, b = 1", at="sub")
        self.bad("w", "loop", "part p = two: a = 1", at="two",
                 more="module two\n  input a\n  wire w = x & a\n  wire x = w\nend\n")
        self.bad("late", "loop", "part p = sub(1): a = late, b = 1", "wire late = late")
        self.good("part p = sub(1): a = 1, b = p.c", "register r = 0", "next r = ~r", "wire w = r", "wire u = w",
                  "memory mem[2] = 0", "write mem[mem[0]] = mem[1] when mem[u]")

    def test_in_the_order_of_the_items(self):
        self.bad("x", "number", "input x[0]", "input y[17]", "part p = none")
        self.bad("p", "module", "input x", "part p = none", "input y[17]")
        self.bad("y", "number", "wire x = zz", "next q = 1", "input y[17]")
        self.bad("q", "register", "wire x = zz", "next q = 1", "write x[0] = 1")
        self.bad("x", "memory", "wire x = zz", "write x[0] = 1", "next q = 1")
        self.bad("x", "name", "wire x = zz", "wire w = w", "wire y = 2")
        self.bad("y", "width", "wire w = w", "wire y = 2", "wire x = zz")
        self.bad("x", "number", "wire x[0] = 1", "wire x = 1")
        self.bad("a", "number", "part p = sub(0)", "input x[0]", at="sub")
        self.bad("x", "number", "input x[0]", "part p = sub(0)")

    def test_a_parts_items_at_its_place(self):
        two = ("module two(n)\n  input a[n]\n  wire x = zz\n  next q = 1\nend\n"
               "module three\n  wire y = 2\n  wire w = w\nend\n")
        self.bad("r", "register", "next r = 1", "part p = two(1): a = 1", more=two)
        self.bad("q", "register", "part p = two(1): a = 1", "next r = 1", more=two, at="two")
        self.bad("p", "inputs", "part p = two(1)", "input x[0]", more=two)
        self.bad("a", "number", "part p = two(17)", "input x[0]", more=two, at="two")
        self.bad("y", "width", "part p = three", "wire x = zz", more=two, at="three")
        self.bad("x", "name", "wire x = zz", "part p = three", more=two)
        self.bad("v", "loop", "wire v = v", "part p = three", at="m", more="module three\n  wire w = w\nend\n")
        self.bad("w", "loop", "part p = three", "wire v = v", at="three", more="module three\n  wire w = w\nend\n")

    def test_a_part_that_is_made_twice_with_other_numbers(self):
        two = "module two(n)\n  input a[n]\n  output b[2] = a\nend\n"
        self.good("part p = two(2): a = 1'2", more=two)
        self.bad("b", "width", "part p = two(2): a = 1'2", "part q = two(3): a = 1'3", more=two, at="two")


if __name__ == "__main__":
    unittest.main()
