"""[17]: slowest programs."""

import itertools
import random
import time
import unittest
from fractions import Fraction

from beatwires.pipes import Pipe
from beatwires.planerrors import BadPipe, BadProgram
from beatwires.slowness import Slowest, slowest
from tests import pipedice

ADD = Pipe(1, {"add": (1, 3, 2)})
ONE = ("add", 0, (0,))
FREE = ("add", -1, (0,))


def followed(pipe, standing, program):
    """The ticks for which a program is held from a standing on, and the standing behind it."""
    ticks = 0
    for instruction in program:
        held, _, standing = pipe.follow(standing, instruction)
        ticks += held
    return ticks, standing


def standings_of(pipe):
    """The dict of all standings that are met to the list of triples of ticks, instruction and standing behind."""
    found, left = {}, [pipe.start()]
    while left:
        one = left.pop()
        if one not in found:
            found[one] = [(held, told, behind) for told in pipe.instructions() for held, _, behind in [pipe.follow(one, told)]]
            left += [behind for _, _, behind in found[one]]
    return found


def greatest_mean(steps, longest):
    """The greatest ticks for an instruction of all loops of so many instructions at most, by trying all."""
    best = Fraction(0)
    for begin in steps:
        most = {begin: 0}
        for many in range(1, longest + 1):
            ahead = {}
            for one, ticks in most.items():
                for held, _, behind in steps[one]:
                    ahead[behind] = max(ahead.get(behind, -1), ticks + held)
            most = ahead
            if begin in most:
                best = max(best, Fraction(most[begin], many))
    return best


class TestFinding(unittest.TestCase):
    def check(self, pipe):
        """What [17] asks, step by step."""
        found = slowest(pipe)
        self.assertIsInstance(found, Slowest)
        self.assertTrue(found.loop)
        self.assertTrue(all(map(pipe.is_instruction, found.program + found.loop)))
        _, begin = followed(pipe, pipe.start(), found.program)
        self.assertEqual(followed(pipe, begin, found.loop), (found.ticks, begin))
        self.assertIn(pipe.start(), found.heights)
        for standing, height in found.heights.items():
            for instruction in pipe.instructions():
                held, _, behind = pipe.follow(standing, instruction)
                self.assertGreaterEqual(found.heights[behind], height + len(found.loop) * held - found.ticks)
        self.assertIs(found.shows(pipe), True)
        return found

    def test_the_example(self):
        found = slowest(Pipe(1, {"a": (1, 3, 2)}))
        self.assertEqual(found.ticks, len(found.loop))

    def test_nothing_is_ever_held(self):
        for pipe in (Pipe(1, {"a": (1, 3, 2)}, holds=False), Pipe(2, {"a": (2, 4, 1)}), Pipe(1, {"a": (0, 4, None)}),
                     Pipe(2, {"a": (2, 4, None), "b": (1, 2, 1)}, holds=False, orders=False), Pipe(1, {"a": (2, 1, None)})):
            self.assertEqual(self.check(pipe).ticks, 0)

    def test_what_is_known(self):
        for length in (2, 3, 4):
            found = self.check(Pipe(1, {"a": (1, length, None)}))
            self.assertEqual(Fraction(found.ticks, len(found.loop)), length - 1)
            found = self.check(Pipe(2, {"a": (1, length, 1), "b": (0, 1, None)}, orders=False))
            self.assertEqual(found.ticks, 0)
        # Two by turns, of which only the one behind the long one is held.
        found = self.check(Pipe(1, {"long": (0, 4, None), "new": (0, 1, None)}))
        self.assertEqual(Fraction(found.ticks, len(found.loop)), 1)

    def test_against_trying_all_short_loops(self):
        dice = random.Random(18)
        means = set()
        for _ in range(60):
            pipe = pipedice.pipe(dice, dice.choice([1, 1, 2]), dice.choice([1, 1, 2]), 3)
            found = self.check(pipe)
            steps = standings_of(pipe)
            mean = Fraction(found.ticks, len(found.loop))
            means.add(mean)
            if len(steps) < 30:
                self.assertEqual(mean, greatest_mean(steps, len(steps)))
            else:
                self.assertGreaterEqual(mean, greatest_mean(steps, 4))
        self.assertGreater(len(means), 3)
        self.assertTrue(any(mean.denominator > 1 for mean in means))

    def test_against_the_ticks(self):
        dice = random.Random(19)
        for _ in range(30):
            pipe = pipedice.pipe(dice, dice.choice([1, 2]))
            found = self.check(pipe)
            watch = pipedice.Watch(pipe)
            for instruction in found.program:
                watch.issue(instruction)
            before = watch.standing()
            for _ in range(2):
                self.assertEqual(sum(watch.issue(instruction)[0] for instruction in found.loop), found.ticks)
                self.assertEqual(watch.standing(), before)

    def test_two_registers_and_four_kinds(self):
        since = time.perf_counter()
        for told in ({"a": (2, 4, 1), "b": (2, 4, 2), "c": (2, 4, 3), "d": (2, 4, None)},
                     {"a": (2, 4, None), "b": (2, 3, None), "c": (2, 4, 3), "d": (2, 2, None)},
                     {"a": (2, 1, None), "b": (2, 2, 1), "c": (2, 3, 1), "d": (2, 4, 1)}):
            for holds, orders in itertools.product((True, False), repeat=2):
                self.check(Pipe(2, told, holds=holds, orders=orders))
        self.assertLess(time.perf_counter() - since, 30)


class TestShowing(unittest.TestCase):
    def setUp(self):
        self.found = slowest(ADD)
        self.heights = self.found.heights

    def shown(self, ticks=1, program=(), loop=(ONE,), heights=None):
        return Slowest(ticks, program, loop, self.heights if heights is None else heights).shows(ADD)

    def test_what_is_told(self):
        start, behind = ADD.start(), ((("", 0), ("add", 1)),)
        self.assertEqual(sorted(self.heights), [start, behind])
        found = Slowest(1, [ONE], [ONE], self.heights)
        self.assertTrue(found.shows(ADD))
        self.assertTrue(self.shown(program=(ONE,)))
        self.assertFalse(self.shown(), "behind no program the loop does not come back")
        self.assertTrue(self.shown(program=[ONE, ONE, FREE, ONE], loop=[ONE, ONE, ONE], ticks=3, heights={start: 0, behind: -3}))
        self.assertTrue(self.shown(2, (ONE,), (ONE, ONE), {start: -7, behind: -7}))

    def test_ticks(self):
        for ticks in (0, 2, -1, 3, 10**30):
            self.assertFalse(self.shown(ticks, (ONE,)))
        self.assertFalse(self.shown(2, (ONE,), (ONE, ONE, ONE)))

    def test_loops(self):
        self.assertFalse(self.shown(0, (), ()), "an empty loop")
        self.assertFalse(self.shown(1, (ONE,), ()))
        self.assertFalse(self.shown(1, (ONE,), (FREE,)), "it does not come back")
        self.assertFalse(self.shown(1, (ONE,), (ONE, FREE)))
        self.assertFalse(self.shown(0, (), (FREE,)), "others are held longer")
        self.assertFalse(self.shown(1, (), (ONE, FREE)), "others are held longer")
        self.assertTrue(Slowest(1, (), (ONE, FREE), {ADD.start(): 0}).loop)

    def test_heights(self):
        start, behind = ADD.start(), ((("", 0), ("add", 1)),)
        for heights, told in (({start: 0, behind: 0}, True), ({start: 0, behind: 1}, False), ({start: 0, behind: -1}, True),
                              ({start: 0, behind: -2}, False), ({start: 0}, False),
                              ({behind: 0}, False), ({}, False), ({start: 5, behind: 5}, True),
                              ({start: -10**20, behind: -10**20}, True)):
            self.assertEqual(self.shown(1, (ONE,), heights=heights), told, heights)
        self.assertTrue(self.shown(1, (ONE,), heights={start: 0, behind: 0, ((("", 0), ("add", 2)),): 0}))
        for more in (((("", 0), ("add", 3)),), ((("", 0), ("sub", 1)),), ((("", 1),),), start * 2, (), 5, "x"):
            self.assertFalse(self.shown(1, (ONE,), heights={start: 0, behind: 0, more: 0}))
        # One that is not met, but leads to what has heights.
        more = ((("", 0), ("", 1)),)
        self.assertFalse(self.shown(1, (ONE,), heights={start: 0, behind: 0, more: 0}))
        odd = ((("", 0), ("", 1), ("add", 1)),)
        self.assertTrue(self.shown(1, (ONE,), heights={start: 0, behind: 0, more: 0, odd: 0}))

    def test_a_height_that_is_missing(self):
        pipe = Pipe(2, {"a": (1, 3, None), "b": (0, 2, 1)})
        found = slowest(pipe)
        for standing in list(found.heights):
            other = Slowest(found.ticks, found.program, found.loop, found.heights)
            del other.heights[standing]
            self.assertFalse(other.shows(pipe))
        self.assertTrue(found.shows(pipe))
        self.assertFalse(found.shows(Pipe(2, {"a": (1, 4, None), "b": (0, 2, 1)})))
        self.assertFalse(found.shows(Pipe(2, {"a": (1, 3, None), "b": (0, 2, 1)}, holds=False)))

    def test_errors(self):
        for thing in (None, 5, "pipe", {"a": (1, 3, 2)}, self.found):
            for call in (slowest, Slowest(1, None, None, {}).shows):
                with self.assertRaises(BadPipe) as caught:
                    call(thing)
                self.assertIsNone(caught.exception.name)
        for program in (None, 5, [5], ONE, [("add", 1, (0,))], [("sub", 0, (0,))], [list(ONE)]):
            self.assertRaises(BadProgram, Slowest(1, program, [ONE], self.heights).shows, ADD)
            self.assertRaises(BadProgram, Slowest(1, [ONE], program, self.heights).shows, ADD)
            self.assertRaises(BadProgram, Slowest(7, [], program, {}).shows, ADD)

    def test_copies_and_equality(self):
        program, loop, heights = [ONE], [ONE], dict(self.heights)
        found = Slowest(1, program, loop, heights)
        program.append(ONE)
        loop.append(ONE)
        heights["x"] = 3
        self.assertEqual([found.program, found.loop, found.heights], [[ONE], [ONE], self.heights])
        self.assertEqual(found, Slowest(1, (ONE,), (ONE,), dict(reversed(self.heights.items()))))
        for other in (Slowest(2, [ONE], [ONE], self.heights), Slowest(1, [], [ONE], self.heights),
                      Slowest(1, [ONE], [ONE, ONE], self.heights), Slowest(1, [ONE], [ONE], {}), None, 5):
            self.assertNotEqual(found, other)
        first = slowest(ADD)
        first.loop.append(ONE)
        first.heights.clear()
        self.assertTrue(slowest(ADD).shows(ADD))


if __name__ == "__main__":
    unittest.main()
