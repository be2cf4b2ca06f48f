"""[16]: whether pipes are right for all programs."""

import itertools
import random
import time
import unittest

from beatwires.pipes import Pipe, played
from beatwires.piping import Chosen, Right, Wrong, cheapest_right, is_right, judge_pipe
from beatwires.planerrors import BadPipe, BadProgram
from tests import pipedice

EARLY = Pipe(1, {"add": (1, 2, 1)}, holds=False)
LATE = Pipe(1, {"add": (1, 2, None)}, holds=False)
MIXED = {"long": (0, 3, None), "new": (0, 1, None)}
ADD = ("add", 0, (0,))


def wrong_by_trying(pipe, longest):
    """The least length of a program for which a pipe is not right, up to one; None if there is none."""
    for many in range(longest + 1):
        for program in itertools.product(pipe.instructions(), repeat=many):
            _, reads, ends = pipedice.watched(pipe, program)
            if (reads, ends) != pipedice.plain(pipe, program):
                return many
    return None


class TestJudging(unittest.TestCase):
    def test_the_examples(self):
        found = judge_pipe(LATE)
        self.assertIsInstance(found, Wrong)
        self.assertIs(bool(found), False)
        self.assertEqual(len(found.program), 2)
        self.assertTrue(found.shows(LATE))
        found = judge_pipe(EARLY)
        self.assertIsInstance(found, Right)
        self.assertIs(bool(found), True)
        self.assertIn(EARLY.start(), found.standings)
        self.assertTrue(found.shows(EARLY))

    def test_what_holds_and_orders_do(self):
        self.assertTrue(judge_pipe(Pipe(1, {"add": (1, 2, None)})))
        self.assertTrue(judge_pipe(Pipe(1, MIXED)))
        found = judge_pipe(Pipe(1, MIXED, orders=False))
        self.assertEqual([kind for kind, _, _ in found.program], ["long", "new"])
        self.assertTrue(judge_pipe(Pipe(2, MIXED, holds=False)))
        # Taken at once wherever it is asked, but the older of two results may be written later.
        self.assertFalse(judge_pipe(Pipe(1, {"a": (1, 4, 1), "b": (1, 2, 1)}, orders=False)))
        self.assertTrue(judge_pipe(Pipe(1, {"a": (1, 4, 1), "b": (1, 2, 1)})))
        # Results that are written at the same tick stay in the order of issue.
        self.assertTrue(judge_pipe(Pipe(1, {"a": (1, 3, 1), "b": (1, 2, 1)}, orders=False)))
        self.assertTrue(judge_pipe(Pipe(1, {"a": (2, 1, None)}, holds=False, orders=False)))

    def test_is_right(self):
        self.assertIs(is_right(LATE, []), True)
        self.assertIs(is_right(LATE, (ADD,)), True)
        self.assertIs(is_right(LATE, [ADD, ADD]), False)
        self.assertIs(is_right(LATE, [ADD, ("add", -1, (0,))]), False)
        self.assertIs(is_right(EARLY, [ADD] * 5), True)
        wide = Pipe(4, {"a": (2, 4, None), "b": (0, 1, None)}, orders=False)
        self.assertIs(is_right(wide, [("a", 3, (1, 2)), ("b", 3, ())]), False)
        self.assertIs(is_right(wide, [("a", 3, (1, 2)), ("b", 2, ()), ("a", 1, (3, 2))]), True)

    def test_against_trying_short_programs(self):
        dice = random.Random(17)
        seen = set()
        for _ in range(80):
            pipe = pipedice.pipe(dice, dice.choice([1, 1, 2]), dice.choice([1, 2]), 3)
            longest = 2 if len(pipe.instructions()) > 10 else 3 if len(pipe.instructions()) > 6 else 4
            found = judge_pipe(pipe)
            self.assertTrue(found.shows(pipe))
            least = wrong_by_trying(pipe, longest)
            seen.add(least)
            if least is not None:
                self.assertEqual(len(found.program), least)
            if not found:
                self.assertFalse(is_right(pipe, found.program))
                self.assertTrue(least or len(found.program) > longest)
            else:
                self.assertIsNone(least)
                program = [dice.choice(pipe.instructions()) for _ in range(15)]
                self.assertTrue(is_right(pipe, program))
        self.assertTrue({None, 2} <= seen)

    def test_two_registers_and_four_kinds(self):
        since = time.perf_counter()
        kinds = {"a": (2, 4, 1), "b": (2, 4, 2), "c": (2, 4, 3), "d": (2, 4, None)}
        for told in (kinds, {"a": (2, 1, None), "b": (2, 2, 1), "c": (2, 3, 1), "d": (2, 4, 1)}):
            pipe = Pipe(2, told)
            found = judge_pipe(pipe)
            self.assertTrue(found)
            self.assertTrue(found.shows(pipe))
            for free in (Pipe(2, told, holds=False), Pipe(2, told, orders=False), Pipe(2, told, holds=False, orders=False)):
                self.assertTrue(judge_pipe(free).shows(free))
        choices = [(at, Pipe(2, kinds, holds=at == 39)) for at in range(40)]
        self.assertTrue(cheapest_right(choices).shows(choices))
        self.assertLess(time.perf_counter() - since, 30)


class TestShowing(unittest.TestCase):
    def test_standings_that_do_not_show(self):
        right = judge_pipe(EARLY)
        start, behind = EARLY.start(), ((("", 0), ("add", 1)),)
        self.assertEqual(sorted(right.standings), [start, behind])
        for standings, told in (([start, behind], True), ((behind, start), True), ([behind, start, behind], True),
                                ([], False), ([start], False), ([behind], False)):
            self.assertEqual(Right(standings).shows(EARLY), told)
        for more in (((("", 0), ("", 1)),), ((("add", 1), ("", 0)),), ((("", 0), ("add", 2)),), ((("", 0), ("add", 0)),),
                     ((("", 0), ("sub", 1)),), start * 2, (), ((),), ((("", 1),),), ((("", 0), ("", 0)),),
                     ((("", 1), ("", 0)),), ((("", 2),),), ((("", 0), ("add", True)),), ((("", 0, 0),),), ([("", 0)],), [(("", 0),)], (((["add"], 1), ("", 0)),),
                     ((["", 0],),), (((None, 1), ("", 0)),), None, 5):
            self.assertFalse(Right([start, behind, more]).shows(EARLY), more)
        self.assertFalse(right.shows(LATE))
        self.assertFalse(right.shows(Pipe(1, {"sub": (1, 2, 1)})))
        self.assertFalse(right.shows(Pipe(2, {"add": (1, 2, 1)})))
        found = judge_pipe(EARLY)
        found.standings.pop()
        self.assertFalse(found.shows(EARLY))

    def test_standings_that_do_not_end_right(self):
        pipe = Pipe(1, MIXED, orders=False)
        standings = [pipe.start()]
        for standing in standings:
            standings += [to for to in [pipe.follow(standing, one)[2] for one in pipe.instructions()] if to not in standings]
        self.assertTrue(all(pipe.follow(one, told)[1] for one in standings for told in pipe.instructions()))
        self.assertFalse(Right(standings).shows(pipe))
        self.assertTrue(all(to in standings for to in judge_pipe(Pipe(1, MIXED)).standings))

    def test_a_larger_list_that_is_still_closed(self):
        pipe = Pipe(2, {"a": (0, 3, None)})
        right = judge_pipe(pipe)
        odd = ((("", 0), ("a", 1)), (("", 0), ("a", 1)))
        self.assertNotIn(odd, right.standings)
        self.assertFalse(Right(right.standings + [odd]).shows(pipe), "what it leads to is not there")
        left = [odd]
        for standing in left:
            left += [to for to in [pipe.follow(standing, one)[2] for one in pipe.instructions()] if to not in left]
        self.assertTrue(Right(right.standings + left).shows(pipe))

    def test_programs_that_do_not_show(self):
        for program, told in (([ADD, ADD], True), ((ADD, ("add", -1, (0,))), True), ([ADD], False), ([], False),
                              ([("add", -1, (0,)), ADD], False)):
            self.assertEqual(Wrong(program).shows(LATE), told)
            self.assertFalse(Wrong(program).shows(EARLY))
        self.assertFalse(Wrong([ADD, ADD, ADD]).shows(LATE), "there is a shorter one")
        for program in ([ADD, ("add", 1, (0,))], [None], [ADD, ADD, 5]):
            self.assertRaises(BadProgram, Wrong(program).shows, LATE)
            self.assertRaises(BadProgram, is_right, LATE, program)
        self.assertRaises(BadProgram, is_right, LATE, None)
        self.assertRaises(BadProgram, is_right, LATE, ADD)

    def test_errors(self):
        for thing in (None, 5, "pipe", {"add": (1, 2, 1)}):
            for call in (judge_pipe, Right([]).shows, Wrong([None]).shows):
                with self.assertRaises(BadPipe) as caught:
                    call(thing)
                self.assertIsNone(caught.exception.name)
            with self.assertRaises(BadPipe) as caught:
                is_right(thing, 5)
            self.assertIsNone(caught.exception.name)

    def test_copies_and_equality(self):
        given = [EARLY.start()]
        one, other = Right(given), Right(tuple(given))
        given.append(5)
        self.assertEqual(one.standings, [EARLY.start()])
        self.assertEqual(other.standings, [EARLY.start()])
        self.assertEqual(one, other)
        self.assertNotEqual(one, Right(given))
        program = [ADD, ADD]
        one, other = Wrong(program), Wrong(tuple(program))
        program.append(ADD)
        self.assertEqual(one.program, [ADD, ADD])
        self.assertEqual(one, other)
        self.assertNotEqual(one, Wrong(program))
        self.assertNotEqual(Right([]), Wrong([]))
        self.assertNotEqual(Wrong([]), Right([]))


class TestChosen(unittest.TestCase):
    GOOD = Pipe(1, {"add": (1, 2, 1)})

    def test_the_example(self):
        found = cheapest_right([(3, Pipe(1, {"a": (1, 3, 1)})), (1, Pipe(1, {"a": (1, 3, 2)}, holds=False))])
        self.assertEqual(found.place, 0)
        self.assertEqual(list(found.against), [1])

    def test_prices(self):
        choices = ((5, LATE), (-2, LATE), (5, self.GOOD), (4, LATE), (5, EARLY), (9, EARLY))
        found = cheapest_right(choices)
        self.assertIn(found.place, (2, 4))
        self.assertEqual(list(found.against), [1, 3])
        self.assertEqual([len(program) for program in found.against.values()], [2, 2])
        self.assertTrue(found.shows(choices))
        for at, right in ((2, True), (4, True), (0, False), (5, False), (1, False), (-2, False), (6, False), (10**9, False)):
            self.assertEqual(Chosen(at, found.against).shows(choices), right, at)
        self.assertEqual(cheapest_right([(7, self.GOOD)]), Chosen(0, {}))
        self.assertTrue(Chosen(0, {}).shows([(7, self.GOOD)]))

    def test_none_right(self):
        self.assertIsNone(cheapest_right([]))
        self.assertIsNone(cheapest_right(()))
        self.assertIsNone(cheapest_right([(1, LATE), (0, LATE)]))
        self.assertFalse(Chosen(0, {}).shows([]))
        self.assertFalse(Chosen(0, {}).shows([(0, LATE)]))

    def test_other_programs(self):
        choices = [(1, LATE), (3, self.GOOD), (2, LATE), (4, LATE)]
        wrong = [ADD, ADD]
        for against, told in (({0: wrong, 2: wrong}, True), ({2: wrong, 0: wrong + wrong}, True), ({0: wrong}, False),
                              ({2: wrong}, False), ({}, False), ({0: wrong, 2: wrong, 3: wrong}, False),
                              ({0: wrong, 2: [ADD]}, False), ({0: [], 2: wrong}, False),
                              ({0: wrong, 2: wrong, 1: wrong}, False), ({0: wrong, 2: wrong, 7: wrong}, False), ({0: wrong, 2: wrong, 4: wrong}, False),
                              ({0: wrong, 2: wrong, -2: wrong}, False)):
            self.assertEqual(Chosen(1, against).shows(choices), told, against)
        for program in ([5], [ADD, ("add", 0, ())]):
            self.assertRaises(BadProgram, Chosen(1, {0: wrong, 2: program}).shows, choices)
            self.assertRaises(BadProgram, Chosen(9, {0: wrong, 3: program}).shows, choices)

    def test_errors(self):
        for choices in (None, 5, "c", {1: EARLY}, [EARLY], [(1, EARLY), None], [[1, EARLY]], [(1, EARLY, 1)],
                        [("1", EARLY)], [(True, EARLY)], [(None, EARLY)], [(1, "pipe")], [(1,)], ((1, EARLY), (EARLY, 1))):
            for call in (cheapest_right, Chosen(0, {0: [5]}).shows):
                with self.assertRaises(BadPipe) as caught:
                    call(choices)
                self.assertIsNone(caught.exception.name)

    def test_as_many_as_may_be(self):
        dear = [(2, LATE)] * 38
        choices = [(1, LATE), *dear, (1, self.GOOD)]
        for given in (choices, tuple(choices)):
            self.assertEqual(len(given), 40)
            found = cheapest_right(given)
            self.assertEqual(found, Chosen(39, {}))
            self.assertTrue(found.shows(given))
            self.assertFalse(Chosen(0, {}).shows(given))
        self.assertIsNone(cheapest_right([(1, LATE)] * 40))

    def test_too_many(self):
        for many in (41, 42, 1000):
            for pair in ((3, self.GOOD), (3, LATE)):
                for choices in ([pair] * many, (pair,) * many):
                    for call in (cheapest_right, Chosen(0, {}).shows, Chosen(many, {}).shows, Chosen(0, {1: [5]}).shows):
                        with self.assertRaises(BadPipe) as caught:
                            call(choices)
                        self.assertIsNone(caught.exception.name)
                    self.assertEqual(len(choices), many)

    def test_copies_and_equality(self):
        program = [ADD]
        given = {1: program, 0: tuple(program)}
        found = Chosen(2, given)
        given[3] = program
        program.append(ADD)
        self.assertEqual(found.against, {0: [ADD], 1: [ADD]})
        self.assertEqual(found, Chosen(2, {0: [ADD], 1: (ADD,)}))
        self.assertNotEqual(found, Chosen(1, {0: [ADD], 1: [ADD]}))
        self.assertNotEqual(found, Chosen(2, {0: [ADD]}))
        self.assertNotEqual(found, None)
        choices = [(1, LATE), (2, self.GOOD)]
        cheapest_right(choices)
        self.assertEqual(choices, [(1, LATE), (2, self.GOOD)])
        self.assertEqual(played(self.GOOD, [ADD]).held, [0])


if __name__ == "__main__":
    unittest.main()
