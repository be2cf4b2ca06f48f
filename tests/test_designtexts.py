"""[5]: designs are read and written."""

import random
import unittest

from beatwires.designs import Design
from beatwires.designtexts import read_design
from beatwires.designwriting import write_design
from beatwires.errors import BadText
from tests import designdice


def module(*items, head="module m(n, k)"):
    return "\n".join([head, *items, "end"])


ALL_ITEMS = """module all1
end
module half(n)
  input a[n]
  output b[n] = ~a
  output c = odd(a)
end
module whole(n, k)
  input go
  input a[n]
  input b[16]
  wire one[n] = a + 1'n
  output two[n - 1] = a[n - 1..1]
  output three = go
  register r[n * k] = 65535
  register s = 0
  next r = r when go
  next s = ~s
  reset r when go & s
  reset s when s
  memory mem[16][n] = n
  memory bits[k + 1] = 1
  write mem[b] = a when go
  write mem[b] = a
  write bits[{go, s}] = go when s
  part p = half(n): a = one
  part q = half((n + 1) * k): a = mem[b] == a ? one : a
  part last = all1
  output four = p.c ^ q.c
end
"""


class TestReadAndWrite(unittest.TestCase):
    def item(self, told, written=None):
        """Reads an item, and looks at what is written for it."""
        design = read_design(module(told))
        self.assertEqual(write_design(design), module("  " + (written or told), head="module m(n, k)") + "\n")
        again = read_design(write_design(design))
        self.assertTrue(again == design)
        self.assertEqual(write_design(again), write_design(design))
        return design

    def expression(self, told, written=None):
        return self.item(f"output x = {told}", f"output x = {written or told}")

    def test_every_kind_of_line(self):
        design = read_design(ALL_ITEMS)
        self.assertEqual(write_design(design), ALL_ITEMS)
        self.assertEqual(design.titles(), ["all1", "half", "whole"])
        self.assertEqual(len(design), 3)
        self.assertEqual([title in design for title in ("all1", "half", "whole", "p", "", None, 1, ["half"])],
                         [True] * 3 + [False] * 5)

    def test_the_example(self):
        told = read_design("module count(n)\ninput go # counts\nregister now[n]=0\nnext now=now+1'n when go\n"
                           "output all1 = all(now)\nend")
        self.assertEqual(write_design(told), "module count(n)\n  input go\n  register now[n] = 0\n"
                                             "  next now = now + 1'n when go\n  output all1 = all(now)\nend\n")

    def test_titles_are_new(self):
        design = read_design(ALL_ITEMS)
        design.titles().clear()
        self.assertEqual(design.titles(), ["all1", "half", "whole"])

    def test_equality(self):
        one = "module a\n  input x\nend\n"
        two = "module b(n)\n  input x[n]\nend\n"
        self.assertTrue(read_design(one + two) == read_design(one + "# more\n\n" + two))
        self.assertFalse(read_design(one + two) == read_design(two + one))
        self.assertFalse(read_design(one) == read_design(one + two))
        self.assertFalse(read_design(one) == read_design(one.replace("x", "y")))
        self.assertFalse(read_design(one) != read_design(one))
        self.assertFalse(read_design(one) == one)
        self.assertTrue(read_design("module a\ninput x [ 1 ]\nend") == read_design(one))
        self.assertTrue(read_design("module a\ninput x [ (1) ]\nend") == read_design(one))
        self.assertFalse(read_design("module a\ninput x[2 - 1]\nend") == read_design(one))
        self.assertIsInstance(read_design(one), Design)

    def test_widths_of_one(self):
        for kind, behind in (("input", ""), ("output", " = a"), ("wire", " = a"), ("register", " = 1"),
                             ("memory", " = 1")):
            word = "x[3]" if kind == "memory" else "x"
            self.item(f"{kind} {word}[1]{behind}", f"{kind} {word}{behind}")
            self.item(f"{kind} {word}{behind}")
            self.item(f"{kind} {word}[n]{behind}")
            self.item(f"{kind} {word}[2 - 1]{behind}")
        self.item("memory x[1] = 0")
        self.item("memory x[1][1] = 0", "memory x[1] = 0")

    def test_constants(self):
        for told, written in (
                ("n", None), ("65535", None), ("99999", None), ("n+k-1", "n + k - 1"), ("n-(k-1)", "n - (k - 1)"),
                ("(n-k)-1", "n - k - 1"), ("n*(k*2)", "n * (k * 2)"), ("(n*k)*2", "n * k * 2"),
                ("(n+1)*k", "(n + 1) * k"), ("n+1*k", "n + 1 * k"), ("(n*k)+1", "n * k + 1"), ("((n))", "n"),
                ("n*(1+k)", "n * (1 + k)"), ("(1)*n+(k)*n", "1 * n + k * n"), ("unknown", None)):
            self.item(f"input x[{told}]", f"input x[{written or told}]")
            self.item(f"register x = {told}", f"register x = {written or told}")
            self.expression(f"wide(a, {told})", f"wide(a, {written or told})")
            self.item(f"part p = m({told}, {told})", f"part p = m({written or told}, {written or told})")
            inner = written or told
            closed = inner if inner.isalnum() else f"({inner})"
            self.expression(f"1'({told})", f"1'{closed}")
            self.expression(f"a << ({told})", f"a << {closed}")
            self.expression(f"a >> ({told}) >> n", f"a >> {closed} >> n")

    def test_every_kind_of_expression(self):
        for told in ("a", "p.x", "0", "1", "7", "5'3", "5'n", "5'(n + 1)", "~a", "a & b", "a | b", "a ^ b", "a + b",
                     "a - b", "a == b", "a < b", "a ? b : c", "a << 3", "a >> n", "a << (n + 1)", "{a}", "{a, b, c}",
                     "a[0]", "a[n - 1]", "a[n..0]", "a[n - 1..k + 2]", "all(a)", "any(a)", "odd(a)", "wide(a, n * 2)",
                     "mem[a & b]", "mem[a ? b : c]", "mem[mem[~a]]", "mem[p.x]", "mem[a][0]", "5'3[0]", "5'n[1..0]",
                     "all(a)[0]", "{a, b}[1]", "(a + b)[1..0]", "p.x[2]", "a[3..0][1]", "wide(a, 3)[0]", "1[0]",
                     "mem[5'3]", "mem[a << 2]", "~a[0]", "(~a)[0]"):
            self.expression(told)

    def test_how_signs_bind(self):
        for told, written in (
                ("a|b^c&d==e+f<<1", "a | b ^ c & d == e + f << 1"), ("((((((a|b)^c)&d)==e)+f)<<1)",
                                                                     "(((((a | b) ^ c) & d) == e) + f) << 1"),
                ("(a|(b^(c&(d==(e+(f<<1))))))", "a | b ^ c & d == e + f << 1"), ("(a-b)-c", "a - b - c"),
                ("a-(b-c)", None), ("a-b+c", None), ("a-(b+c)", None), ("(a&b)&c", "a & b & c"), ("a&(b&c)", None),
                ("a|(b|c)", None), ("a^(b^c)", None), ("(a<<1)>>2", "a << 1 >> 2"), ("(a==b)==c", None),
                ("a==(b==c)", None), ("(a<b)==(c<d)", None), ("a&(b==c)", "a & b == c"), ("(a&b)==c", None),
                ("~(a)", "~a"), ("~(~a)", "~~a"), ("~(a&b)", None), ("~(a<<1)", None), ("(~a)<<1", "~a << 1"),
                ("~(a[0])", "~a[0]"), ("(a)[0]", "a[0]"), ("(p.x)[0]", "p.x[0]"), ("(a+b)[0]", None),
                ("a?b:c?d:e", "a ? b : c ? d : e"), ("a?b:(c?d:e)", "a ? b : c ? d : e"), ("(a?b:c)?d:e", None),
                ("a?b?c:d:e", "a ? b ? c : d : e"), ("a?(b?c:d):e", "a ? b ? c : d : e"), ("(a|b)?c:d", "a | b ? c : d"),
                ("a|(b?c:d)", None), ("(a?b:c)|d", None), ("{(a|b),(c?d:e)}", "{a | b, c ? d : e}"),
                ("all((a?b:c))", "all(a ? b : c)"), ("m[(a|b)]", "m[a | b]"), ("wide((a|b),(n))", "wide(a | b, n)"),
                ("(a)", "a"), ("((((a))))", "a"), ("(1)", "1"), ("(5'3)", "5'3"), ("5'(3)", "5'3"), ("5'(n)", "5'n"),
                ("a<<(3)", "a << 3"), ("a[(n)]", "a[n]"), ("a[(n-1)..(0)]", "a[n - 1..0]"), ("a[n-(k-1)]", None),
                ("(a+b)[n-(k-1)..(k)]", "(a + b)[n - (k - 1)..k]"), ("(a)[n..0]", "a[n..0]"), ("~~~a", None)):
            if written is None:
                written = told
                for sign in ("==", "&", "|", "^", "+", "-", "?", ":", "<<", ">>", "<"):
                    if sign != "<" or "<<" not in told:
                        written = written.replace(sign, f" {sign} ")
            self.expression(told, written)

    def test_blanks_remarks_and_empty_lines(self):
        plain = read_design("module m(n, k)\n  input a[n]\n  output x = a == 5'n ? 1 : all(a)\nend\n")
        for text in ("module m(n,k)\ninput a[n]\noutput x=a==5'n?1:all(a)\nend",
                     "\n\n  module   m ( n , k )#first\n#\n input a [ n ]   \n   # ! \u00e9 \t %\noutput x = a == 5 ' n ? 1 : "
                     "all ( a ) # the last\n\nend # done\n\n#"):
            self.assertTrue(read_design(text) == plain)

    def test_words_may_follow_numbers_at_once(self):
        self.item("next x = 1when a", "next x = 1 when a")
        self.item("write x[0]=1'3when 1", "write x[0] = 1'3 when 1")

    def test_longest_words_and_lines(self):
        word = "a" * 11 + "9"
        self.item(f"input {word}[{word}]")
        self.expression(" + ".join(["a"] * 99))
        self.assertEqual(len(read_design(f"module {word}({word})\nend\n")), 1)
        self.expression("(" * 30 + "a" + ")" * 30, "a")
        self.expression("~" * 30 + "a")
        self.expression("{" * 30 + "a" + "}" * 30)
        self.expression("a[" * 30 + "b" + "]" * 30)
        self.expression("a ? b : " * 30 + "c")
        self.expression("a ? " * 30 + "b" + " : c" * 30)
        self.expression("all(" * 30 + "b" + ")" * 30)
        self.expression("a[" + "(" * 29 + "b" + ")" * 29 + "]", "a[b]")
        self.expression("a << " + "(" * 30 + "3" + ")" * 30, "a << 3")
        self.item("input x[" + "(" * 30 + "3" + ")" * 30 + "]", "input x[3]")
        self.item("part p = m(1, " + "(" * 30 + "3" + ")" * 30 + ")", "part p = m(1, 3)")
        self.item("write x[" + "(" * 30 + "a" + ")" * 30 + "] = " + "~" * 30 + "a when " + "~" * 30 + "a",
                  "write x[a] = " + "~" * 30 + "a when " + "~" * 30 + "a")

    def test_many_by_chance(self):
        scope = designdice.Scope({"a": 1, "b": 2, "c": 3, "d": 5}, {"m": (4, 3), "l": (3, 1)}, {"p.x": 2, "q.y": 4})
        read = 0
        for seed in range(400):
            dice = random.Random(seed)
            tree = designdice.expression(dice, scope, dice.randrange(1, 6), dice.randrange(1, 6))
            few, full = designdice.text(tree, False), designdice.text(tree, True)
            try:
                design = read_design(module(f"output x = {full}"))
            except BadText:
                continue
            read += 1
            self.assertEqual(write_design(design), f"module m(n, k)\n  output x = {few}\nend\n")
            self.assertTrue(read_design(write_design(design)) == design)
        self.assertGreater(read, 300)


class TestBadText(unittest.TestCase):
    def bad(self, text, line, column):
        with self.assertRaises(BadText, msg=text) as caught:
            read_design(text)
        self.assertEqual((caught.exception.line, caught.exception.column), (line, column), text)

    def item(self, told, column):
        """The item is refused at a column, one behind its end for None."""
        self.bad(module("  input fine", told), 3, len(told) + 1 if column is None else column)

    def marked(self, told):
        """The item is refused at the place of its mark, which is no part of it."""
        self.item(told.replace("@", ""), told.index("@") + 1)

    def test_no_string(self):
        for bad in (None, 5, b"module a\nend", ["module a", "end"], True):
            self.bad(bad, 0, 0)

    def test_no_module_or_no_end(self):
        self.bad("", 2, 1)
        self.bad("\n\n", 4, 1)
        self.bad("# module a\n", 3, 1)
        self.bad("module a", 2, 1)
        self.bad("module a\n", 3, 1)
        self.bad("module a\nend\nmodule b\n  input x\n# end\n", 7, 1)
        self.bad("module a\nend\nmodule b", 4, 1)
        self.bad("module a\n  input\n", 2, 8)

    def test_signs_that_are_no_part(self):
        for sign in ("!", "A", "_", "\t", "\r", "%", "$", ";", ">", "/", "\\", "\"", "@", "\u00e9", "\u0663", "\u00a0"):
            self.bad(f"module a\n  input x{sign}\nend", 2, 10)
            self.bad(f"{sign}module a\nend", 1, 1)
            self.bad(f"module a\nend # {sign}\nend {sign}", 3, 5)
        self.bad("module a\n  wire x = a >> 1 > 2\nend", 2, 19)
        self.bad("module a\n  wire x = a >>> 1\nend", 2, 16)
        self.assertEqual(len(read_design("module a # \t!\nend")), 1)

    def test_the_first_line_that_is_not_of_the_form_comes_first(self):
        self.bad("module a\n  what\n  input x !\n  input y % $\nend", 3, 11)
        self.bad("end end\nmodule module\n\n !", 4, 2)
        self.bad("module a\n  input x 007 !\nend", 2, 11)

    def test_numbers_that_are_none(self):
        self.marked("input x[@007]")
        self.marked("input x[@00]")
        self.marked("input x[@01]")
        self.marked("input x[@123456]")
        self.marked("wire x = a[@100000..0]")
        self.bad("module a\n  what\n  input x[05]\nend", 3, 11)
        self.bad("module a\n  input x[12345]\n  input x[0]\n  what\nend", 4, 3)
        self.bad("module a5007\nmodule\nend", 2, 1)

    def test_the_heads_of_modules(self):
        self.bad("modul a\nend", 1, 1)
        self.bad("input a\nend", 1, 1)
        self.bad("end", 1, 1)
        self.bad("module\nend", 1, 7)
        self.bad("module input\nend", 1, 8)
        self.bad("module 5\nend", 1, 8)
        self.bad("module " + "a" * 13 + "\nend", 1, 8)
        self.bad("module a b\nend", 1, 10)
        self.bad("module a()\nend", 1, 10)
        self.bad("module a(n\nend", 1, 11)
        self.bad("module a(n,)\nend", 1, 12)
        self.bad("module a(n, 5)\nend", 1, 13)
        self.bad("module a(n) b\nend", 1, 13)
        self.bad("module a(n k)\nend", 1, 12)
        self.bad("module a(n, k, n)\nend", 1, 16)
        self.bad("module a(n, end)\nend", 1, 13)
        self.bad("module a\nend\nmodule a\nend", 3, 8)
        self.bad("module a\nend\nmodule b\nend\n  module  a(n, n)\nend", 5, 11)
        self.bad("module a\nend a\n", 2, 5)
        self.bad("module a\nmodule b\nend\nend", 2, 1)
        self.bad("module a\nend\nend", 3, 1)
        self.assertEqual(len(read_design("module a(a)\nend")), 1)

    def test_a_line_that_ends_too_early(self):
        for told in ("input", "input   ", "input # x", "input x[", "input x[1", "input x[n +", "input x[n * (k",
                     "output x", "output x[n]", "output x =", "output x = a &", "output x = a ?", "output x = a ? b",
                     "output x = a ? b :", "output x = (a", "output x = {a", "output x = {a,", "output x = a[",
                     "output x = a[0", "output x = a[0..", "output x = a[0..1", "output x = all", "output x = all(",
                     "output x = all(a", "output x = wide(a", "output x = wide(a,", "output x = wide(a, 3",
                     "output x = p.", "output x = 5'", "output x = 5'(", "output x = 5'(3", "output x = a <<",
                     "output x = a >> (", "output x = ~", "wire", "register x", "register x =", "register x = 3 *",
                     "next", "next x", "next x =", "next x = a when", "reset", "reset x", "reset x when", "memory",
                     "memory x", "memory x[", "memory x[3", "memory x[3]", "memory x[3][2]", "memory x[3] =", "write",
                     "write x", "write x[", "write x[a", "write x[a]", "write x[a] =", "write x[a] = b when", "part",
                     "part x", "part x =", "part x = m(", "part x = m(3", "part x = m(3,", "part x = m(3):",
                     "part x = m:", "part x = m: a", "part x = m: a =", "part x = m: a = b,"):
            self.item(told, None)
            self.item("  " + told + "  # and so on", None)

    def test_what_cannot_stand(self):
        for told in (
                "@what x", "@x = 5", "@= 5", "@5", "@all(x)", "@module x", "@when x", "input @5", "input @next",
                "input @aaaaaaaaaaaaa", "input x @y", "input x @= 5", "input x[@]", "input x[@-1]", "input x[@~n]",
                "input x[n@'3]", "input x[n @& k]", "input x[3 @4]", "input x[@end]", "input x[n]@[k]", "input x[n@..0]",
                "input x[n @<< 1]", "output x@.y = 5", "output x @when a", "output x = @when", "output x = a @b",
                "output x = a @5", "output x = a @when b", "output x = a @= b", "output x = a @, b", "output x = a @)",
                "output x = (a@]", "output x = (@)", "output x = {@}", "output x = {a@)", "output x = {a, @}",
                "output x = @-a", "output x = a - @-b", "output x = a @* b", "output x = (a @* b)", "output x = a[b @* c]",
                "output x = p.x[b @* c]", "output x = a[0..n @* 2]", "output x = a @: b", "output x = a ? b @, c",
                "output x = a == b @== c", "output x = a < b @== c", "output x = a == b @< c",
                "output x = a + b == c - d @< e", "output x = a & b == c @== d", "output x = a == b + c @== d",
                "output x = a == b | c < d @< e", "output x = ~a == ~b @== ~c", "output x = (a == b @== c)",
                "output x = a << @~b", "output x = a << @{b}", "output x = a << n@[0]", "output x = a << 3@'2",
                "output x = a << (n @& k)", "output x = a << (3@'2)", "output x = 5'@~3", "output x = 5'3@'2",
                "output x = 5'3 @4", "output x = 5'@{3}", "output x = 5'(a@[0])", "output x = a@'3", "output x = p@'3",
                "output x = p.@5", "output x = p.@all", "output x = p.x@.y", "output x = 5@.x", "output x = (a)@.x",
                "output x = @.x", "output x = a@..b", "output x = a[b & c@..0]", "output x = a[5'3@..0]",
                "output x = a[p.x@..0]", "output x = a[0..b@&c]", "output x = a[0..b@..c]", "output x = a[@]",
                "output x = a[0@,1]", "output x = (a + b)[c @& d]", "output x = (a + b)[@~c]", "output x = p.x[c@[0]]",
                "output x = (a)[0][b @& c]", "output x = p.x[5@'3]", "output x = a[0][b @^ c]", "output x = {a}[b@.c]",
                "output x = all @a", "output x = all(a@, b)", "output x = all(@)", "output x = @end", "output x = wide(a@)",
                "output x = wide(a, @)", "output x = wide(a, n@, 3)", "output x = wide(a, n @& k)", "output x = a @~b",
                "output x = a @(b)", "output x = a @{b}", "output x = @?", "output x = a ? @? b : c",
                "wire @= 5", "wire x[3] @5", "register x[3] = @~0", "register x = a@[0]", "register x = a @== b",
                "register x = 5@'3", "register x = (@)", "next x@[3] = 5", "next x = a when b @when c",
                "next x = a @, b", "next x @when a", "reset x @= a", "reset x when a @when b", "reset x@[0] when b",
                "memory x @= 5", "memory x[@] = 5", "memory x[a @& b] = 5", "memory x[3][2]@[1] = 5", "memory x[3@.5]",
                "memory x[3] @when", "write x @= 5", "write x[@] = 5", "write x[a]@[b] = 5", "write x[a@..b] = 5",
                "write x[a] @when b", "write x[a] = b @, c", "part x @m", "part x@[3] = m", "part x = @5",
                "part x = m(@)", "part x = m(n, @, k)", "part x = m(n @& k)", "part x = m(n)@(k)", "part x = m @a = b",
                "part x = m: @5 = a", "part x = m: a@[0] = b", "part x = m: a = b @c = d", "part x = m: a = b, @",
                "part x = m: a = b @: c = d", "part x = m: a = b, @, c = d", "part x = m: @when = b",
                "part x = m: a = b @when c", "part x = m@.y", "part x = m @= a"):
            self.marked(told)

    def test_the_two_hundred_and_first(self):
        fine = "output x = " + "a + " * 98 + "a"
        self.assertEqual(len(read_design(module(fine))), 1)
        self.marked(fine + " @+ a")
        self.marked(fine + " @+")
        self.marked(fine + " @? & ,")
        self.marked("output x = " + "a + " * 98 + "~@a")
        self.marked("output x = " + "a + " * 97 + "a + (@a)")
        self.marked("output x = " + "a + " * 50 + "@& " + "a + " * 99 + "a")
        self.marked("part x = m(" + "1, " * 97 + "1@)")
        self.item("output x = " + "a + " * 97 + "a +", None)
        widths = ", ".join(f"n{at}" for at in range(98))
        self.assertEqual(len(read_design(f"module m({widths})\nend")), 1)
        self.bad(f"module mm({widths}, n98)\nend", 1, len(f"module mm({widths}, n98") + 1)

    def test_what_lies_within_thirty_others(self):
        for told in (
                "output x = " + "(" * 30 + "@(a" + ")" * 31, "output x = " + "{" * 30 + "@{a" + "}" * 31,
                "output x = " + "~" * 30 + "@~a", "output x = " + "a[" * 30 + "b@[0" + "]" * 31,
                "output x = " + "a ? b : " * 30 + "c @? d : e", "output x = " + "a ? " * 30 + "b @? c : d" + " : e" * 30,
                "output x = " + "(" * 30 + "@~a" + ")" * 30, "output x = " + "~" * 30 + "@(a)",
                "output x = " + "~(" * 15 + "@{a}" + ")" * 15, "output x = " + "~" * 30 + "a@[0]",
                "output x = " + "(" * 30 + "a @? b : c" + ")" * 30, "output x = " + "all(" * 30 + "any@(a)" + ")" * 30,
                "output x = " + "~" * 30 + "5'@(3)", "output x = " + "(" * 30 + "a << @(3)" + ")" * 30,
                "output x = " + "(" * 30 + "wide@(a, 3)" + ")" * 30, "input x[" + "(" * 30 + "@(3)" + ")" * 30 + "]",
                "output x = wide(a, " + "(" * 29 + "@(3)" + ")" * 29 + ")", "part p = m(" + "(" * 30 + "@(3)" + ")" * 30 + ")",
                "output x = (a + b)[" + "(" * 29 + "@(3)" + ")" * 29 + "]", "write x[" + "(" * 30 + "@(3" + ")" * 31 + "] = a",
                "part p = m(1, " + "(" * 30 + "@(3)" + ")" * 30 + ")", "next x = a when " + "~" * 30 + "@~a", "register x = " + "(" * 30 + "@(3" + ")" * 31,
                "part p = m: a = " + "~" * 30 + "@~a", "output x = a[0.." + "(" * 29 + "@(3)" + ")" * 29 + "]"):
            self.marked(told)
        side = "(" * 30 + "a" + ")" * 30
        self.assertEqual(len(read_design(module(f"output x = {side} + {side} + {'~' * 30}b"))), 1)
        self.assertEqual(len(read_design(module(f"output x = {side} ? {'~' * 29}b : {'(' * 29}a{')' * 29}"))), 1)
        self.assertEqual(len(read_design(module("output x = " + "~" * 29 + "a[0][1][2]" + " + a[0]" * 9))), 1)


if __name__ == "__main__":
    unittest.main()
