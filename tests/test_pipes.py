"""[14] and [15]: plain machines and pipes."""

import random
import unittest

from beatwires import errors, planerrors
from beatwires.pipes import Pipe, Played, plain_reads, played
from beatwires.planerrors import BadPipe, BadProgram
from tests import pipedice

ADD = {"add": (1, 3, 2)}


class TestErrors(unittest.TestCase):
    def test_direct_subclasses(self):
        for name in ("BadTerm", "BadWidth", "BadPlan", "NoPlacing", "BadPipe", "BadProgram"):
            told = getattr(planerrors, name)
            self.assertEqual(told.__bases__, (errors.BeatError,))
            self.assertEqual(told.__module__, "beatwires.planerrors")
            self.assertIsInstance(told("x"), ValueError)
        self.assertEqual(BadPipe("kinds").name, "kinds")
        self.assertIsNone(BadPipe(None).name)


class TestSettings(unittest.TestCase):
    def check(self, name, *settings, **more):
        with self.assertRaises(BadPipe) as caught:
            Pipe(*settings, **more)
        self.assertEqual(caught.exception.name, name)

    def test_attributes(self):
        kinds = {"mul": (2, 4, None), "add": (1, 3, 2)}
        pipe = Pipe(3, kinds, orders=False)
        self.assertEqual([pipe.registers, list(pipe.kinds.items()), pipe.holds, pipe.orders],
                         [3, [("add", (1, 3, 2)), ("mul", (2, 4, None))], True, False])
        kinds["x"] = 5
        self.assertEqual(len(pipe.kinds), 2)
        self.assertEqual(Pipe(1, {"abcdefgh": (0, 1, None)}, holds=False).holds, False)
        for kind in ((0, 1, None), (2, 4, 3), (1, 2, 1), (0, 4, 1)):
            self.assertEqual(Pipe(4, {"a": kind, "b": kind, "c": kind, "d": kind}).kinds["d"], kind)

    def test_one_by_one(self):
        for registers in (0, 5, True, None, "1", -1, [1]):
            self.check("registers", registers, ADD)
        for kinds in ({}, [], None, "add", {"a": (1, 1, None), "b": (1, 1, None), "c": (1, 1, None), "d": (1, 1, None),
                                            "e": (1, 1, None)},
                      {"": (1, 1, None)}, {"abcdefghi": (1, 1, None)}, {"A": (1, 1, None)}, {"a1": (1, 1, None)},
                      {5: (1, 1, None)}, {None: (1, 1, None)}, {"a": [1, 1, None]}, {"a": (1, 1)}, {"a": None},
                      {"a": (1, 1, None, 1)}, {"a": (-1, 1, None)}, {"a": (3, 1, None)}, {"a": (True, 1, None)},
                      {"a": (1, 0, None)}, {"a": (1, 5, None)}, {"a": (1, True, None)}, {"a": (1, None, None)},
                      {"a": (1, 3, 0)}, {"a": (1, 3, 3)}, {"a": (1, 1, 1)}, {"a": (1, 3, True)}, {"a": (1, 3, "1")},
                      {"a": (1, 3, False)}, {"a": (1, 3, 2), "b": (1, 3, 4)}, {"a": ("1", 3, 2)}):
            self.check("kinds", 1, kinds)
        for truth in (1, 0, None, "True"):
            self.check("holds", 1, ADD, holds=truth)
            self.check("orders", 1, ADD, orders=truth)

    def test_several_at_once(self):
        self.check("registers", 0, {}, holds=1, orders=1)
        self.check("kinds", 1, {}, holds=1, orders=1)
        self.check("holds", 1, ADD, holds=1, orders=1)
        self.check("orders", 1, ADD, orders=1)

    def test_equality(self):
        self.assertEqual(Pipe(2, {"a": (1, 2, 1), "b": (0, 1, None)}), Pipe(2, {"b": (0, 1, None), "a": (1, 2, 1)}))
        for other in (Pipe(1, ADD), Pipe(2, {"add": (1, 3, 1)}), Pipe(2, ADD, holds=False), Pipe(2, ADD, orders=False)):
            self.assertNotEqual(Pipe(2, ADD), other)
        self.assertNotEqual(Pipe(2, ADD), 5)


class TestInstructions(unittest.TestCase):
    def test_what_is_one(self):
        pipe = Pipe(2, {"add": (2, 2, None), "get": (0, 1, None)})
        for thing in (("add", -1, (0, 1)), ("add", 1, (1, 1)), ("get", 0, ())):
            self.assertIs(pipe.is_instruction(thing), True)
        for thing in (None, 5, [], (), ["add", 0, (0, 1)], ("add", 0), ("add", 0, (0, 1), 1), ("add", 0, [0, 1]),
                      ("add", 2, (0, 1)), ("add", -2, (0, 1)), ("add", True, (0, 1)), ("add", None, (0, 1)),
                      ("add", 0, (0,)), ("add", 0, (0, 2)), ("add", 0, (0, -1)), ("add", 0, (0, True)),
                      ("add", 0, (0, None)), ("sub", 0, (0, 1)), ("", 0, ()), (None, 0, ()), (["add"], 0, (0, 1)),
                      ("get", 0, (0,)), ("get", 0, None), ({}, {}, {}), "add", ("add", "0", (0, 1))):
            self.assertIs(pipe.is_instruction(thing), False, thing)

    def test_the_list_of_all(self):
        pipe = Pipe(2, {"b": (2, 2, None), "a": (0, 1, None), "c": (1, 1, None)})
        told = pipe.instructions()
        self.assertEqual(told[:4], [("a", -1, ()), ("a", 0, ()), ("a", 1, ()), ("b", -1, (0, 0))])
        self.assertEqual(len(told), 3 + 12 + 6)
        self.assertEqual(told, sorted(told))
        self.assertTrue(all(map(pipe.is_instruction, told)))
        self.assertEqual(len(set(Pipe(4, {"a": (2, 1, None)}).instructions())), 80)


class TestPlaying(unittest.TestCase):
    def test_the_example(self):
        pipe = Pipe(2, ADD, holds=False)
        program = [("add", 0, (1,)), ("add", 1, (0,)), ("add", 1, (0,))]
        self.assertEqual(played(pipe, program), Played([0, 0, 0], [(-1,), (-1,), (0,)], [0, 2]))
        self.assertEqual(plain_reads(pipe, program), ([(-1,), (0,), (0,)], [0, 2]))
        self.assertEqual(played(Pipe(2, ADD), program).held, [0, 1, 0])
        self.assertEqual(pipe.follow(pipe.start(), program[0]), (0, True, ((("", 0), ("add", 1)), (("", 0),))))

    def test_empty_programs(self):
        for program in ([], ()):
            self.assertEqual(played(Pipe(3, ADD), program), Played([], [], [-1, -1, -1]))
            self.assertEqual(plain_reads(Pipe(3, ADD), program), ([], [-1, -1, -1]))

    def test_ways_of_none(self):
        pipe = Pipe(1, {"a": (1, 3, None)})
        told = played(pipe, [("a", 0, (0,)), ("a", 0, (0,)), ("a", -1, (0,)), ("a", -1, (0,))])
        self.assertEqual(told, Played([0, 2, 2, 0], [(-1,), (0,), (1,), (1,)], [1]))

    def test_goals_of_none(self):
        pipe = Pipe(1, {"a": (0, 4, None), "b": (1, 1, None)})
        told = played(pipe, [("a", -1, ()), ("b", 0, (0,)), ("b", -1, (0,))])
        self.assertEqual(told, Played([0, 0, 0], [(), (-1,), (1,)], [1]))
        self.assertEqual(pipe.follow(pipe.start(), ("a", -1, ()))[2], pipe.start())

    def test_orders(self):
        kinds = {"long": (0, 4, None), "new": (0, 1, None)}
        program = [("long", 0, ()), ("new", 0, ()), ("long", -1, ())]
        self.assertEqual(played(Pipe(1, kinds), program), Played([0, 2, 0], [(), (), ()], [1]))
        free = Pipe(1, kinds, orders=False)
        self.assertEqual(played(free, program), Played([0, 0, 0], [(), (), ()], [0]))
        # At the same tick, that of the one issued last stays.
        self.assertEqual(played(Pipe(1, {"a": (0, 2, None), "b": (0, 1, None)}), [("a", 0, ()), ("b", 0, ())]),
                         Played([0, 0], [(), ()], [1]))

    def test_standings(self):
        pipe = Pipe(1, {"a": (0, 4, 1), "b": (0, 1, None)}, orders=False)
        seen = [pipe.start()]
        for instruction in (("a", 0, ()), ("b", 0, ()), ("a", -1, ()), ("b", -1, ()), ("a", 0, ()), ("b", -1, ())):
            held, reads, behind = pipe.follow(seen[-1], instruction)
            self.assertEqual((held, reads), (0, True))
            seen.append(behind)
        self.assertEqual(seen, [((("", 0),),), ((("", 0), ("a", 1)),), ((("a", 2), ("", 0)),), ((("a", 3), ("", 0)),),
                                ((("", 0), ("", 1)),), ((("", 0), ("", 1), ("a", 1)),), ((("", 0), ("", 1), ("a", 2)),)])
        self.assertEqual([pipe.ends_right(one) for one in seen], [True, True, False, False, False, True, True])
        reader = Pipe(1, {"a": (0, 4, 1), "b": (0, 1, None), "c": (1, 1, None)}, orders=False)
        self.assertEqual([reader.follow(one, ("c", -1, (0,)))[:2] for one in seen],
                         [(0, True), (0, True), (0, True), (0, True), (0, False), (0, True), (0, True)])

    def test_against_the_times(self):
        dice = random.Random(16)
        seen = set()
        for _ in range(400):
            pipe = pipedice.pipe(dice)
            some = pipe.instructions()
            program = [dice.choice(some) for _ in range(dice.randint(0, 12))]
            held, reads, ends = pipedice.watched(pipe, program)
            told = played(pipe, dice.choice([list, tuple])(program))
            self.assertEqual([told.held, told.reads, told.ends], [held, reads, ends])
            plain = pipedice.plain(pipe, program)
            self.assertEqual(plain_reads(pipe, program), plain)
            watch, standing = pipedice.Watch(pipe), pipe.start()
            for instruction in program:
                self.assertEqual(standing, watch.standing())
                last = tuple(watch.last(source) for source in instruction[2])
                ticks, places = watch.issue(instruction)
                found, right, standing = pipe.follow(standing, instruction)
                self.assertEqual((found, right), (ticks, places == last))
                seen.update([("held", ticks), ("right", right)])
            self.assertEqual(standing, watch.standing())
            self.assertEqual(pipe.ends_right(standing), ends == plain[1])
            seen.add(("ends", ends == plain[1]))
        self.assertTrue({("held", 0), ("held", 1), ("held", 2), ("held", 3), ("right", False), ("ends", False)} <= seen)

    def test_bad_programs(self):
        pipe = Pipe(1, ADD)
        good = ("add", 0, (0,))
        for call in (played, plain_reads):
            for program in (None, 5, "add", {good: 1}, good, [good, ("add", 1, (0,))], (good, None), [[good]]):
                self.assertRaises(BadProgram, call, pipe, program)

    def test_played(self):
        told = Played((0, 1), ((-1,), ()), (1,))
        self.assertEqual([told.held, told.reads, told.ends], [[0, 1], [(-1,), ()], [1]])
        self.assertEqual(told, Played([0, 1], [(-1,), ()], [1]))
        for other in (Played([0, 0], [(-1,), ()], [1]), Played([0, 1], [(0,), ()], [1]), Played([0, 1], [(-1,), ()], [0])):
            self.assertNotEqual(told, other)
        self.assertNotEqual(told, None)
        given = [0]
        other = Played(given, given, given)
        given.append(1)
        self.assertEqual([other.held, other.reads, other.ends], [[0], [0], [0]])
        pipe, program = Pipe(1, ADD), [("add", 0, (0,))]
        first = played(pipe, program)
        first.ends.append(5)
        self.assertEqual(played(pipe, program).ends, [0])
        self.assertEqual(program, [("add", 0, (0,))])


if __name__ == "__main__":
    unittest.main()
