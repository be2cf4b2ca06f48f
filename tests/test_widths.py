"""[23]: formulas at all widths."""

import itertools
import random
import time
import unittest

from beatwires.planerrors import BadTerm, BadWidth
from beatwires.termchecks import ordered_parts
from beatwires.wideterms import holds_at
from beatwires.wideword import Reader
from beatwires.widths import Always, Fails, Widths, count_at, judge_widths, shortest_widths, widths_of
from tests import termdice
from tests.test_wideterms import BAD_FORMULAS, nested

X, Y, U, V = ("name", "x"), ("name", "y"), ("name", "u"), ("name", "v")
ZERO, ONE = ("number", 0), ("number", 1)
SUM = ("equal", ("+", X, Y), ("+", ("^", X, Y), ("up", 1, ("&", X, Y))))
STEP = ("less", X, ("+", X, ONE))
THIRD = ("or", (("not", ("equal", ("times", 3, X), ("number", -1))), ("below", X, ZERO)))
CALLS = (judge_widths, widths_of, lambda formula: count_at(formula, 3), Always([]).shows, Fails(1, {}).shows)


def all_values(formula, width):
    """All dicts of values of the names of a formula."""
    names = termdice.names(formula)
    return [dict(zip(names, told)) for told in itertools.product(range(2 ** width), repeat=len(names))]


def fails_at(formula, width):
    return [values for values in all_values(formula, width) if not termdice.truth(formula, width, values)]


def met(formula, longest):
    """The sets of standings behind so many bits of all values, from none to a number."""
    return [{termdice.standing(formula, width, values) for values in all_values(formula, width)}
            for width in range(longest + 1)]


MANY = ("or", (("less", ("times", 3, X), ("+", ("times", -3, Y), ("up", 2, U))), ("equal", ("times", 3, V), X),
               ("below", ("-", X, U), ("+", Y, V))))
WIDE = ("or", (("equal", ("times", 15, ("+", X, Y)), ("+", ("times", 15, X), ("times", 15, Y))), ("below", ("up", 1, U), V)))


def standings_met(formula):
    """All standings that are met, by the package's own reader."""
    reader = Reader(ordered_parts(formula, True))
    found, left = set(), reader.standings_behind(reader.first_standing())
    while left:
        one = left.pop()
        if one not in found:
            found.add(one)
            left += reader.standings_behind(one)
    return found


class TestStandings(unittest.TestCase):
    def test_part_by_part(self):
        dice = random.Random(45)
        kinds = set()
        for _ in range(300):
            formula = termdice.formula(dice, dice.randint(3, 16), "xy")
            reader = Reader(ordered_parts(formula, True))
            self.assertEqual(reader.first_standing(), termdice.standing(formula, 0, {"x": 0, "y": 0}))
            width = dice.randint(1, 12)
            values = {name: dice.randrange(2 ** width) for name in reader.names}
            now = reader.first_standing()
            for at in range(width):
                way = sum((values[name] >> at & 1) << place for place, name in enumerate(reader.names))
                now = reader.standings_behind(now)[way]
                self.assertEqual(now, termdice.standing(formula, at + 1, values), formula)
                self.assertTrue(reader.is_standing(now))
                cut = {name: value % 2 ** (at + 1) for name, value in values.items()}
                self.assertIs(reader.tells(now), termdice.truth(formula, at + 1, cut))
            kinds |= {part[0] for part in termdice.parts(formula)}
        self.assertEqual(len(kinds), 16)

    def test_what_may_stand(self):
        for part, least, most in ((("+", X, Y), 0, 1), (("-", X, Y), 0, 1), (("times", 3, X), 0, 2), (("times", -3, X), -3, 0),
                                  (("times", 0, X), 0, 0), (("times", 1, X), 0, 0), (("times", -1, X), -1, 0), (("times", 30, X), 0, 29),
                                  (("up", 0, X), 0, 0), (("up", 2, X), 0, 3), (("up", 6, X), 0, 63)):
            reader = Reader(ordered_parts(("equal", part, X), True))
            told = [number for number in range(-70, 70) if reader.is_standing((number, 1))]
            self.assertEqual(told, list(range(least, most + 1)), part)
        for kind, most in (("equal", 1), ("less", 1), ("below", 3)):
            reader = Reader(ordered_parts((kind, X, Y), True))
            self.assertEqual([number for number in range(-5, 9) if reader.is_standing((number,))], list(range(most + 1)))
        for number, halves in ((5, [0, 1, 2, 5]), (-5, [-5, -3, -2, -1]), (0, [0]), (-1, [-1]), (1000, [0, 1, 3, 7, 15, 31, 62, 125,
                                                                                                   250, 500, 1000])):
            reader = Reader(ordered_parts(("less", ("number", number), X), True))
            self.assertEqual([told for told in range(-1100, 1100) if reader.is_standing((told, 0))], halves)

    def test_what_is_told(self):
        found = judge_widths(SUM)
        # The carry of the first sum; the bit that was moved up, the carry of the other one, whether they are alike.
        self.assertEqual(sorted(found.standings), [(0, 0, 0, 1), (1, 0, 1, 1), (1, 1, 0, 1)])
        self.assertEqual(judge_widths(("equal", ("number", 5), ("number", 5))).standings,
                         [(2, 2, 1), (1, 1, 1), (0, 0, 1)])
        self.assertEqual(sorted(judge_widths(("not", ("less", X, X))).standings), [(0,)])
        self.assertEqual(judge_widths(("and", ())).standings, [()])
        self.assertEqual(sorted(judge_widths(("or", (("less", X, Y), ("not", ("less", X, Y))))).standings),
                         [(0, 0), (1, 1)])
        self.assertEqual(sorted(judge_widths(("or", (("below", X, Y), ("not", ("below", X, Y))))).standings),
                         [(0, 0), (1, 1), (2, 2), (3, 3)])
        self.assertEqual(sorted(judge_widths(("equal", ("times", -3, X), ("-", ZERO, ("times", 3, X)))).standings)[0][0], -3)


class TestJudging(unittest.TestCase):
    def check(self, formula):
        found = judge_widths(formula)
        self.assertIs(found.shows(formula), True)
        if found:
            self.assertIsInstance(found, Always)
            return found
        self.assertIsInstance(found, Fails)
        self.assertEqual(sorted(found.given), termdice.names(formula))
        self.assertIs(termdice.truth(formula, found.width, found.given), False)
        return found

    def test_the_examples(self):
        self.assertTrue(self.check(SUM))
        self.assertEqual(self.check(STEP).width, 1)
        self.assertIs(bool(judge_widths(SUM)), True)
        self.assertIs(bool(judge_widths(STEP)), False)

    def test_what_is_known(self):
        for formula in (("equal", ("~", X), ("-", ("number", -1), X)), ("equal", ("-", X, Y), ("+", ("+", X, ("~", Y)), ONE)),
                        ("equal", ("times", 5, X), ("+", X, ("up", 2, X))), ("equal", ("times", -30, X), ("-", ZERO, ("times", 30, X))),
                        ("or", (("less", X, Y), ("less", Y, X), ("equal", X, Y))), ("not", ("below", X, X)), ("and", ()),
                        ("or", (("not", ("below", X, Y)), ("not", ("below", Y, X)))), ("not", ("or", ())),
                        ("equal", ("up", 6, X), ("times", 4, ("times", 16, X))), ("equal", ("number", -1), ("~", ZERO)),
                        ("equal", ("+", ("|", X, Y), ("&", X, Y)), ("+", X, Y)), ("and", (SUM,))):
            self.assertTrue(self.check(formula), formula)
        for formula, width in ((("equal", X, ZERO), 1), (("not", ("equal", X, ("number", 64))), 1), (("or", ()), 1),
                               (("not", ("equal", ("number", 64), ("&", X, ("number", 64)))), 1),
                               (("equal", ("times", 4, X), ZERO), 3), (("equal", ("up", 6, X), ZERO), 7),
                               (("equal", ("number", 1000), ZERO), 4), (("equal", ("number", 512), ZERO), 10),
                               (("equal", ("number", -512), ("number", 512)), 11), (("less", X, ("number", -1)), 1),
                               (("or", (("less", X, ("number", -1)), ("equal", X, ("number", -1)))), None),
                               (("equal", nested_up(30), ZERO), 181), (("equal", nested_up(36), ZERO), 217)):
            found = self.check(formula)
            self.assertEqual(getattr(found, "width", None), width, formula)

    def test_against_trying_all_values(self):
        dice = random.Random(46)
        seen = set()
        for _ in range(400):
            formula = termdice.formula(dice, dice.randint(3, 14), dice.choice(["x", "xy", "xy", "xyz"]), dice.choice([3, 5, 30]))
            found = self.check(formula)
            longest = 3 if len(termdice.names(formula)) > 2 else 4
            least = next((width for width in range(1, longest + 1) if fails_at(formula, width)), None)
            if least is None:
                self.assertTrue(found or found.width > longest)
            else:
                self.assertEqual(found.width, least)
            if found:
                told = met(formula, longest)
                self.assertTrue(set().union(*told[1:]) <= set(found.standings))
            seen.add(least if not found else "always")
        self.assertTrue({1, 2, 3, "always"} <= seen)

    def test_without_names(self):
        self.assertEqual(self.check(("equal", ("number", 6), ("number", 2))), Fails(3, {}))
        self.assertTrue(self.check(("less", ("number", -2), ("number", -1))))
        self.assertEqual([count_at(("less", ZERO, ("number", 2)), width) for width in (1, 2, 3, 200)], [0, 1, 1, 1])


def nested_up(many):
    """1 moved up by six, so many times."""
    term = ONE
    for _ in range(many):
        term = ("up", 6, term)
    return term


class TestShowing(unittest.TestCase):
    def test_always(self):
        standings = judge_widths(SUM).standings
        self.assertTrue(Always(tuple(standings)).shows(SUM))
        self.assertTrue(Always(standings[::-1] + standings).shows(SUM))
        for at, told in enumerate(standings):
            self.assertFalse(Always(standings[:at] + standings[at + 1:]).shows(SUM), "one is left out")
            for place in range(4):
                for number in (1 - told[place], 2, -1, 7):
                    other = told[:place] + (number,) + told[place + 1:]
                    self.assertFalse(Always(standings[:at] + [other] + standings[at + 1:]).shows(SUM))
            for other in (told[:3], told + (0,), (), list(told), None, 5, "abcd", told[:3] + (True,), told[:3] + ("1",)):
                self.assertFalse(Always(standings + [other]).shows(SUM), other)
        self.assertFalse(Always([]).shows(SUM))
        self.assertFalse(Always(standings).shows(STEP))
        self.assertFalse(Always(standings).shows(("not", SUM)))
        self.assertTrue(Always(standings).shows(("and", (SUM,))))
        # Where it fails, no list shows it, however much is in it.
        self.assertFalse(Always([(1, carry, told) for carry in (0, 1) for told in (0, 1)]).shows(STEP))
        self.assertFalse(Always([(number, carry, told) for number in (0, 1) for carry in (0, 1) for told in (0, 1)]).shows(STEP))

    def test_more_standings_than_are_met(self):
        formula = ("not", ("less", X, X))
        self.assertTrue(Always([(0,)]).shows(formula))
        self.assertFalse(Always([(0,), (1,)]).shows(formula))
        formula = ("or", (("equal", X, X), ("less", X, Y)))
        self.assertEqual(sorted(judge_widths(formula).standings), [(1, 0), (1, 1)])
        self.assertTrue(Always([(1, 0), (0, 1), (1, 1), (0, 1)][::2] ).shows(formula))
        # One where only the less holds leads to one where nothing does.
        self.assertFalse(Always([(1, 0), (1, 1), (0, 1)]).shows(formula))
        number = ("equal", ("number", 5), ("number", 5))
        self.assertTrue(Always([(2, 2, 1), (1, 1, 1), (0, 0, 1), (5, 5, 1)]).shows(number))
        self.assertFalse(Always([(2, 2, 1), (1, 1, 1), (0, 0, 1), (4, 4, 1)]).shows(number))
        self.assertFalse(Always([(2, 2, 1), (1, 1, 1), (0, 0, 1), (-1, -1, 1)]).shows(number))

    def test_fails(self):
        formula = ("or", (("less", ("times", 4, X), ("number", 3)), ("equal", Y, ZERO)))
        found = judge_widths(formula)
        self.assertEqual([found.width, sorted(found.given)], [3, ["x", "y"]])
        for width, given, told in ((3, {"x": 1, "y": 1}, True), (3, {"y": 7, "x": 3}, True), (3, {"x": 2, "y": 1}, False),
                                   (3, {"x": 1, "y": 0}, False), (3, {"x": 1}, False), (3, {}, False),
                                   (3, {"x": 1, "y": 1, "z": 1}, False), (3, {"x": 1, "z": 1}, False), (3, {"x": 1, "y": 8}, False),
                                   (3, {"x": 9, "y": 1}, False), (3, {"x": -7, "y": 1}, False), (4, {"x": 1, "y": 1}, False),
                                   (2, {"x": 1, "y": 1}, False), (0, {"x": 0, "y": 0}, False), (-3, {"x": 1, "y": 1}, False),
                                   (10 ** 20, {"x": 1, "y": 1}, False)):
            self.assertEqual(Fails(width, given).shows(formula), told, (width, given))
        self.assertFalse(Fails(1, {"x": 0, "y": 0}).shows(SUM))
        self.assertTrue(Fails(1, {}).shows(("or", ())))
        self.assertFalse(Fails(2, {}).shows(("or", ())))

    def test_copies_and_equality(self):
        standings, given = [(0,)], {"x": 1}
        one, other = Always(standings), Fails(3, given)
        standings.append((1,))
        given["y"] = 2
        self.assertEqual([one.standings, other.given, other.width], [[(0,)], {"x": 1}, 3])
        self.assertEqual(one, Always(((0,),)))
        self.assertEqual(other, Fails(3, {"x": 1}))
        for told in (Always([]), Always([(1,)]), Fails(3, {"x": 1}), None, [(0,)]):
            self.assertNotEqual(one, told)
        for told in (Fails(2, {"x": 1}), Fails(3, {}), Always([]), None, 3):
            self.assertNotEqual(other, told)
        first = judge_widths(SUM)
        first.standings.clear()
        self.assertTrue(judge_widths(SUM).shows(SUM))

    def test_errors(self):
        for formula in BAD_FORMULAS + (("equal", nested("~", 38), X),):
            for call in CALLS:
                self.assertRaises(BadTerm, call, formula)
            self.assertRaises(BadTerm, count_at, formula, None)
        for width in (0, -1, 201, True, None, "3", (1,)):
            self.assertRaises(BadWidth, count_at, SUM, width)


class TestWidths(unittest.TestCase):
    def test_the_example(self):
        found = widths_of(("equal", ("times", 4, X), ZERO))
        self.assertEqual([found.front, found.period], [[True, True], [False]])

    def test_what_is_known(self):
        for formula, front, period in (
                (SUM, [], [True]), (STEP, [], [False]), (THIRD, [], [True, False]), (("not", THIRD), [], [False]),
                (("equal", ("number", 6), ("number", 2)), [True, True], [False]),
                (("not", ("equal", ("number", 6), ("number", 2))), [False, False], [True]),
                (("or", (("less", ONE, ("number", 2)), ("equal", ("number", 2), ZERO))), [], [True]),
                (("less", ("number", 5), ("number", 8)), [False] * 3, [True]), (("and", ()), [], [True]), (("or", ()), [], [False]),
                (("not", ("equal", ("number", 512), ZERO)), [False] * 9, [True]),
                (("equal", nested_up(36), ZERO), [True] * 216, [False])):
            self.assertEqual(widths_of(formula), Widths(front, period), formula)

    def test_long_periods(self):
        # The least number whose product by an odd one is -1 has its highest bit again and again.
        for number, many in ((3, 2), (5, 4), (7, 3), (11, 10), (13, 12), (29, 28)):
            formula = ("or", (("not", ("equal", ("times", number, X), ("number", -1))), ("below", X, ZERO)))
            found = widths_of(formula)
            told = [pow(-number, -1, 2 ** width) >= 2 ** (width - 1) for width in range(1, 100)]
            self.assertEqual([width in found for width in range(1, 100)], told)
            self.assertEqual([len(found.front), len(found.period)], [0, many])

    def test_against_counts(self):
        dice = random.Random(47)
        shapes = set()
        for at in range(150):
            names = dice.choice(["x", "x", "xy"])
            formula = termdice.formula(dice, dice.randint(3, 12), names, dice.choice([3, 7, 30]))
            if at % 3 == 0:
                odd = ("equal", ("times", dice.choice([3, 5, 7]), X), ("number", dice.randint(-3, 3)))
                formula = ("or", (("not", odd), formula))
            found = widths_of(formula)
            many = len(termdice.names(formula))
            told = [count_at(formula, width) == 2 ** (many * width) for width in range(1, 15)]
            self.assertEqual([width in found for width in range(1, 15)], told, formula)
            front, period = found.front, found.period
            self.assertTrue(period)
            self.assertTrue(all(isinstance(truth, bool) for truth in front + period))
            self.assertFalse(front and front[-1] == period[-1], "a shorter front")
            for less in range(1, len(period)):
                self.assertFalse(len(period) % less == 0 and period == period[:less] * (len(period) // less))
            self.assertEqual(bool(judge_widths(formula)), not front and period == [True])
            shapes.add((bool(front), len(period) > 1))
        self.assertTrue({(False, False), (True, False), (False, True)} <= shapes)

    def test_as_short_as_can_be(self):
        yes, no = True, False
        for front, period, told in (([], [yes], ([], [yes])), ([], [yes, yes], ([], [yes])), ([yes, yes], [yes, yes], ([], [yes])),
                                    ([no], [yes, no], ([], [no, yes])), ([yes], [no, yes], ([], [yes, no])),
                                    ([yes, no], [yes, no], ([], [yes, no])), ([no, yes, no], [yes, no, yes, no], ([], [no, yes])),
                                    ([yes], [yes, no, no], ([yes], [yes, no, no])), ([no, no], [yes, no, no], ([], [no, no, yes])),
                                    ([yes, no], [yes, no, no], ([yes], [no, yes, no])), ([no], [yes, yes, no, yes, yes, no], ([], [no, yes, yes])),
                                    ([yes, yes], [no, no], ([yes, yes], [no])), ([], [yes, no, yes, yes], ([], [yes, no, yes, yes]))):
            found = shortest_widths(front, period)
            self.assertEqual((found.front, found.period), told)
            whole = front + period * 6
            self.assertEqual([width in found for width in range(1, len(whole) + 1)], whole)

    def test_asking(self):
        found = Widths([True, False], (False, True, True))
        self.assertEqual([width in found for width in range(1, 12)],
                         [True, False, False, True, True, False, True, True, False, True, True])
        self.assertIs(10 ** 9 in found, [False, True, True][(10 ** 9 - 3) % 3])
        for value in (0, -1, -2, True, False, "1", "x", None, (1,), [1], -10 ** 9):
            self.assertIs(value in Widths([True], [True]), False)
        self.assertIs(1 in Widths([], [True]), True)
        self.assertIs(5 in Widths([], [False]), False)

    def test_copies_and_equality(self):
        front, period = [True], [False]
        found = Widths(front, period)
        front.append(True)
        period.append(True)
        self.assertEqual([found.front, found.period], [[True], [False]])
        self.assertEqual(found, Widths((True,), (False,)))
        for other in (Widths([], [False]), Widths([True], [True]), Widths([True], [False, False]), None, Always([])):
            self.assertNotEqual(found, other)


class TestCounts(unittest.TestCase):
    def test_against_trying_all_values(self):
        dice = random.Random(48)
        for _ in range(120):
            formula = termdice.formula(dice, dice.randint(3, 14), dice.choice(["x", "xy", "xy"]), dice.choice([3, 30]))
            for width in range(1, 5):
                told = [values for values in all_values(formula, width) if termdice.truth(formula, width, values)]
                self.assertEqual(count_at(formula, width), len(told))

    def test_what_is_known(self):
        self.assertEqual(count_at(("less", X, Y), 2), 6)
        for width in (1, 2, 100, 200):
            full = 2 ** width
            for formula, told in ((("equal", X, Y), full), (("less", X, Y), full * (full - 1) // 2), (("and", ()), 1), (("or", ()), 0),
                                  (("below", X, Y), full * (full - 1) // 2), (("equal", ("&", X, Y), ZERO), 3 ** width),
                                  (SUM, full ** 2), (("equal", X, ("number", -1)), 1), (("less", X, ("number", -1)), full - 1),
                                  (("not", ("equal", ("times", 7, X), Y)), full ** 2 - full), (("below", X, ZERO), full // 2),
                                  (("equal", ("+", X, Y), ("+", U, V)), full ** 3), (("and", (("equal", X, X),)), full)):
                self.assertEqual(count_at(formula, width), told, (formula, width))
        self.assertEqual(count_at(("equal", ("times", 4, X), ZERO), 200), 4)
        self.assertEqual(count_at(("less", X, ("number", 1000)), 100), 1000)

    def test_four_names_and_thousands_of_standings(self):
        for formula in (MANY, WIDE):
            self.assertTrue(1500 < len(standings_met(formula)) <= 5000, len(standings_met(formula)))
        since = time.perf_counter()
        found = judge_widths(MANY)
        self.assertTrue(found.shows(MANY))
        self.assertEqual(widths_of(MANY), Widths([], [False]))
        told = count_at(MANY, 200)
        self.assertTrue(0 < told < 2 ** 800)
        for width in (1, 2):
            self.assertEqual(count_at(MANY, width), sum(holds_at(MANY, width, values) for values in all_values(MANY, width)))
        found = judge_widths(WIDE)
        self.assertTrue(found)
        self.assertTrue(found.shows(WIDE))
        self.assertFalse(Always(found.standings[:-1]).shows(WIDE))
        self.assertEqual(widths_of(WIDE), Widths([], [True]))
        self.assertEqual(count_at(WIDE, 200), 2 ** 800)
        self.assertLess(time.perf_counter() - since, 30)

    def test_long_periods_in_seconds(self):
        since = time.perf_counter()
        formula = ("or", (("not", ("equal", ("times", 29, X), ("number", -1))), ("not", ("equal", ("times", 27, Y), ("number", -1))),
                          ("below", X, Y)))
        found = widths_of(formula)
        self.assertEqual(len(found.period), 252)
        self.assertLess(time.perf_counter() - since, 15)


if __name__ == "__main__":
    unittest.main()
