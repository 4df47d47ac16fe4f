"""[41] to [44]: charts, goals, rims, bounded cells."""

import copy
import inspect
import random
import unittest
from itertools import product

from tests.naive_chart import NaiveChart
from tests.some_sayings import RELATIONS, random_poly, random_saying
from tests.test_conventions import NO_POLY, ODD
from tests.test_papers import balanced
from tests.test_sayings import NO_SAYING
from tests.test_sheets import poly
from twoletters.cells import cells_of, place_in
from twoletters.charts import chart_of, dimension_of, does_rim, full_lot, goals_of, is_bounded_cell
from twoletters.errors import InvalidCell, InvalidPolys, InvalidSaying, TooMany
from twoletters.numbers import order
from twoletters.polys import core_of, poly_product
from twoletters.reader import read_saying
from twoletters.sayings import is_saying, polys_of
from twoletters.stacks import stack_of
from twoletters.truths import truth_at

RING, LINE, SLANT, HYPER = poly("x^2 + y^2 - 1"), poly("y - x"), poly("x*y - x^2"), poly("x*y - 1")
NO_PAIR = [value for value in ODD if value != (1, 0)] + [(), (0,), (0, 0, 0), (0, -1), (-1, 0), (True, 0), (0, False), [0, 0], ((0,), 0), (None, 0), "00"]
# Bare POLYs of degree 1 or 2, and rows: what the POLYs of sayings are made of.
CURVES = [poly(text) for text in (
    "x^2 + y^2 - 1", "y - x", "y + x", "x*y - 1", "y - x^2", "x - y^2", "y", "y - 1", "x^2 + y^2 - 4", "x*y + 1", "y^2 - x^2 - 1", "x^2 - y^2 - 1", "(x - 1)^2 + y^2 - 1", "x^2*y - 1",
    "y^2 - x^2*(x + 1)", "y^2 - x^3", "x*y^2 - 1", "x^2*y^2 - 1", "x*y^2 - y - x", "(x^2 - 2)*y - x", "y^2 + x^2 + 1", "x*y^2 + y - 1", "x^2*y - x + 1",
)]
ROWS = [poly("x"), poly("x - 1"), poly("x^2 - 2"), poly("x^2 + 1"), poly("3"), poly("-1")]


def text(words):
    return read_saying(words)


def saying_over(polys):
    """A saying that has these POLYs in order."""
    return balanced([("above", each) for each in polys])


class FullLotTest(unittest.TestCase):
    def test_by_hand(self):
        both = poly_product(RING, LINE)
        for lot, expected in (
            ((), ()), ((RING,), (RING,)), ((SLANT,), (SLANT, LINE)), ((RING, LINE), (RING, LINE, poly("(x^2 + y^2 - 1)*(y - x)"))), ((RING, both, LINE), (RING, both, LINE)),
            ((poly("2*x"),), (poly("2*x"),)), ((poly("x"), ()), (poly("x"), ())), ((poly("-y + x"),), (poly("x - y"), LINE)), ((poly("2*y - 2*x"),), (poly("2*y - 2*x"), LINE)),
            ((poly("(y - x)^2"),), (poly("(y - x)^2"), LINE)), ((poly("y"), poly("x*y")), (poly("y"), poly("x*y"))), ((LINE, LINE), (LINE, LINE)), ((SLANT, LINE, ()), (SLANT, LINE, ())),
        ):
            self.assertEqual(full_lot(lot), expected)
            self.assertEqual(full_lot(polys=lot), expected)

    def test_nine_of_eight(self):
        lot = tuple(poly(f"y - {k}*x") for k in range(8))
        self.assertEqual(full_lot(lot), lot + (core_of(lot),))
        self.assertEqual(full_lot(full_lot(lot)[1:]), full_lot(lot)[1:])
        with self.assertRaises(InvalidPolys):
            full_lot(full_lot(lot))

    def test_by_luck(self):
        luck = random.Random(411)
        for _ in range(60):
            lot = tuple(random_poly(luck) for _ in range(luck.randint(0, 4)))
            core = core_of(lot)
            self.assertEqual(full_lot(lot), lot if len(core) < 2 or core in lot else lot + (core,))

    def test_refused(self):
        for value in [each for each in ODD if not isinstance(each, tuple)] + [(LINE,) * 9, [LINE]]:
            with self.assertRaises(InvalidPolys) as caught:
                full_lot(value)
            self.assertIs(caught.exception.index, None)
        for value in NO_POLY:
            with self.assertRaises(InvalidPolys) as caught:
                full_lot((LINE, value, None))
            self.assertEqual(caught.exception.index, 1)


class ChartTest(unittest.TestCase):
    def check(self, saying, polys=None):
        told, ends, stacks, truths = chart_of(saying)
        if polys is not None:
            self.assertEqual(told, full_lot(polys))
        self.assertTrue(all(order(one, other) < 0 for one, other in zip(ends, ends[1:])))
        self.assertEqual((len(stacks), len(truths)), (2 * len(ends) + 1,) * 2)
        if len(told) <= 8:
            expected = cells_of(told)
            self.assertEqual(ends, expected[0])
            self.assertEqual([stack[1:] for stack in stacks], [stack[1:] for stack in expected[1]])
            for column, (x, sections, signs) in enumerate(stacks):
                self.assertEqual(stack_of(told, x), (sections, signs))
                if column % 2:
                    self.assertEqual(x, ends[column // 2])
                else:
                    self.assertTrue(column == 0 or order(ends[column // 2 - 1], x) < 0)
                    self.assertTrue(column == 2 * len(ends) or order(x, ends[column // 2]) < 0)
        for column, each in enumerate(truths):
            self.assertIsInstance(each, tuple)
            self.assertEqual(len(each), len(stacks[column][2]))
            for level, truth in enumerate(each):
                self.assertIsInstance(truth, bool)
                if len(told) <= 8:
                    self.assertIs(truth_at(saying, place_in(told, (column, level))), truth, (saying, column, level))
        return told, ends, truths

    def test_simple_ones(self):
        self.check(("true",), ())
        self.check(text("3 > 2 & x*0 = 0"), ())
        self.check(text("x^2 = 2 | y^2 = 3"), (poly("x^2 - 2"), poly("y^2 - 3")))
        self.check(text("y > 1 & 3 > 1 & x*y > x^2 | y > 1"), (poly("y - 1"), SLANT))
        self.check(text("x^2 + y^2 < 1 & not x <= y"), (RING, poly("x - y")))
        self.check(text("x*(y - x) = 0"), (SLANT,))
        luck = random.Random(412)
        done = 0
        while done < 25:
            saying = random_saying(luck, 4, [random_poly(luck, 2, 2) for _ in range(3)], quantifiers=False)
            if is_saying(saying):
                self.check(saying, tuple(each for each in polys_of(saying) if len(each) > 1 or any(len(row) > 1 for row in each)))
                done += 1

    def test_with_all_and_some(self):
        told, ends, truths = self.check(text("some y: x^2 + y^2 < 1"))
        self.assertEqual([order(one, other) for one, other in zip(ends, ((-1, 1), (1, 1)))], [0, 0])
        self.assertEqual(truths, ((False,), (False,), (True,), (False,), (False,)))
        told, ends, truths = self.check(text("some x: x^2 + y^2 < 1"))
        self.assertEqual((ends, truths), ((), ((False, False, True, False, False),)))
        told, ends, truths = self.check(text("y < x & some x: x^2 + y^2 < 2"))
        self.assertEqual(told[0], poly("y - x"))
        for words in ("[some y: y^2 = x] & [some x: y = x^2]", "x^2 + y^2 < 1 | all y: [y > x | y^2 < 2]", "all x: some y: x*y = 1", "some x: [x^2 = 2 & y > x]", "not [all y: y^2 > x] & y^2 = x",
                      "some y: [y^3 - x*y + 1 = 0 & y < 0 & x > y]", "x > 1 & some y: y^2 + x < 0"):
            self.check(text(words))
        luck = random.Random(413)
        done = 0
        while done < 25:
            saying = random_saying(luck, 4, [random_poly(luck, 2, 1) for _ in range(2)])
            if is_saying(saying):
                self.check(saying)
                done += 1

    def test_eight_polys(self):
        saying = balanced([("above" if k % 2 else "at", poly(f"y - {k}*x - {k * k}")) for k in range(8)])
        told, ends, truths = self.check(saying)
        self.assertEqual(len(told), 9)

    def test_refused(self):
        many = balanced([("at", poly(f"y - {k}*x")) for k in range(9)])
        for function, more in ((chart_of, ()), (goals_of, ()), (does_rim, (None, None)), (is_bounded_cell, (None,))):
            for value in NO_SAYING:
                with self.assertRaises(InvalidSaying) as caught:
                    function(value, *more)
                self.assertIs(caught.exception.given, value)
            with self.assertRaises(TooMany) as caught:
                function(many, *more)
            self.assertEqual(caught.exception.given, 9)

    def test_names_and_equal_calls(self):
        saying = text("x^2 + y^2 < 1 | some y: y^2 = x")
        for function, named in ((chart_of, {"saying": saying}), (goals_of, {"saying": saying}), (does_rim, {"saying": saying, "cell": (0, 0), "other": (1, 0)}),
                                (is_bounded_cell, {"saying": saying, "cell": (2, 1)}), (dimension_of, {"cell": (2, 1)}), (full_lot, {"polys": (RING,)})):
            self.assertEqual(list(inspect.signature(function).parameters), list(named))
            before = copy.deepcopy(named)
            self.assertEqual(repr(function(**dict(reversed(named.items())))), repr(function(*named.values())))
            self.assertEqual(named, before)


class GoalsTest(unittest.TestCase):
    def test_by_hand(self):
        for words, goals in (
            ("true", ()), ("y = 1", ()), ("x^2 + 1 = 0", ()), ("y^2 + x^2 + 1 = 0", ()), ("x = 0", (((), ()),)), ("x^2 + y^2 = 0", (((), ()),)),
            ("x^2 + y^2 = 1", (((), (1, 1)), ((1, 1), ()))), ("x*y = 1", (((-1,), (1,)),)), ("x*y = -1", (((1,), (-1,)),)), ("x^2*y = 1", (((1,), (1,)),)), ("x^2*y = -1", (((-1,), (-1,)),)),
            ("x*(y - x) = 0", (((1,), (1,)),)), ("y = x | y + x = 0", (((1, 1), (1, 1)),)), ("x = y^2", (((), (1, 1)),)), ("y^2 = x^3", (((), (1, 1)),)), ("x*y^2 = 1", (((), (-1, 1)),)),
            ("x*(y^2 - 2) = 0", (((1, 3), (1, 3)),)), ("(x^2 - 1)*(y - x) = 0", (((1,), (1,)), ((1,), (1,)))),
            ("y^3 = x", (((1,), (1,)),)), ("y^3 - 3*y = x", (((1,), (1, 3, 3)), ((1, 1, 3), (3,)))), ("x*y^3 = 1", (((-1,), (1,)),)), ("x*y^4 = 1", (((), (-1, 1)),)),
            ("(x - 3)*(y^3 - x) = 0", (((1,), (1,)),) * 2), ("y^4 - 2*y^2 + x = 0", (((1, 5), (1, 3, 3, 5)), ((1, 1, 3, 3), ()))),
            ("x*y = 1 | x*y = 2", (((-1, -1), (1, 1)),)), ("x = 0 & y > 1", (((1,), (1,)),)),
        ):
            self.assertEqual(goals_of(text(words)), goals, words)
        # Over 0 is y = 0 alone: the hyperbola goes below and above all numbers.
        self.assertEqual(goals_of(text("x*y = 1 | y = 0")), (((-1, 1), (1, 3)),))
        # y = 3 meets the hyperbola at 1/3.
        self.assertEqual(goals_of(text("x*y = 1 | y = 3")), (((-1, 1), (1, 3)), ((1, 1), (1, 1))))
        # Roots of x y y + y - 1: two from - 1/4 on, of which the greater one runs away at 0; over 0 it is 1.
        self.assertEqual(goals_of(text("x*y^2 + y - 1 = 0")), (((), (1, 1)), ((1, 3), (-1, 1))))

    def test_at_numbers_that_are_near(self):
        luck = random.Random(421)
        seen = set()
        for _ in range(120):
            curves = luck.sample(CURVES, luck.randint(1, 3))
            polys = [poly_product(luck.choice(ROWS), each) if luck.random() < 0.3 else each for each in curves]
            polys = [each for each in polys if each and len(each) <= 5 and max(map(len, each)) <= 5]
            kept = [curve for curve, each in zip(curves, polys)] if len(polys) == len(curves) else None
            if kept is None:
                continue
            saying = saying_over(polys)
            chart = NaiveChart(chart_of(saying)[1], kept)
            goals = goals_of(saying)
            self.assertEqual(goals, chart.goals(), saying)
            for k, sides in enumerate(goals):
                top = 2 * len(chart.turns[k]) + 1
                for side in sides:
                    self.assertEqual(list(side), sorted(side))
                    seen.update("below" if goal == -1 else "above" if goal == top else "section" for goal in side)
        self.assertEqual(seen, {"below", "above", "section"})


class RimTest(unittest.TestCase):
    def test_by_hand(self):
        inside, hyper, cross = text("x^2 + y^2 < 1"), text("x*y = 1"), text("x*(y - x) = 0")
        for saying, cell, others in (
            (inside, (1, 1), [(0, 0), (1, 0), (1, 2), (2, 0), (2, 1), (2, 2), (2, 3), (2, 4)]), (inside, (1, 0), [(0, 0), (2, 0)]), (inside, (1, 2), [(0, 0), (2, 4)]), (inside, (2, 1), [(2, 0), (2, 2)]),
            (inside, (2, 2), []), (inside, (2, 3), [(2, 2), (2, 4)]), (inside, (0, 0), []), (hyper, (1, 0), [(0, 2), (2, 0)]), (hyper, (0, 1), [(0, 0), (0, 2)]),
            (cross, (1, 1), [(0, 0), (0, 1), (0, 2), (1, 0), (1, 2), (2, 0), (2, 1), (2, 2)]), (cross, (1, 0), [(0, 0), (2, 0)]), (cross, (1, 2), [(0, 2), (2, 2)]),
        ):
            cells = [(column, level) for column, truths in enumerate(chart_of(saying)[3]) for level in range(len(truths))]
            self.assertEqual([other for other in cells if does_rim(saying, cell, other)], others, cell)

    def test_all_pairs_by_places_that_are_near(self):
        luck = random.Random(431)
        for _ in range(14):
            curves = luck.sample(CURVES, luck.randint(1, 2))
            saying = saying_over(curves)
            chart = NaiveChart(chart_of(saying)[1], curves)
            cells = chart.cells()
            if len(cells) > 40:
                continue
            for cell, other in product(cells, cells):
                truth = does_rim(saying, cell, other)
                self.assertIs(truth, chart.does_rim(cell, other), (saying, cell, other))
                if truth:
                    self.assertLess(dimension_of(cell), dimension_of(other))
            for cell in cells:
                self.assertIs(is_bounded_cell(saying, cell), chart.is_bounded(cell), (saying, cell))

    def test_dimension(self):
        self.assertEqual([dimension_of((column, level)) for column in range(3) for level in range(3)], [2, 1, 2, 1, 0, 1, 2, 1, 2])
        self.assertEqual(dimension_of((10 ** 50, 10 ** 50 + 1)), 1)
        for value in NO_PAIR:
            with self.assertRaises(InvalidCell) as caught:
                dimension_of(value)
            self.assertIs(caught.exception.given, value)

    def test_no_cells(self):
        saying = text("x^2 + y^2 < 1")
        for value in NO_PAIR + [(5, 0), (0, 1), (1, 3), (2, 5), (10 ** 60, 0), (0, 10 ** 60)]:
            for function, values in ((does_rim, (value, None)), (does_rim, ((0, 0), value)), (is_bounded_cell, (value,))):
                with self.assertRaises(InvalidCell) as caught:
                    function(saying, *values)
                self.assertIs(caught.exception.given, value)


class BoundedTest(unittest.TestCase):
    def check(self, words, bounded):
        saying = text(words)
        cells = [(column, level) for column, truths in enumerate(chart_of(saying)[3]) for level in range(len(truths))]
        self.assertEqual([cell for cell in cells if is_bounded_cell(saying, cell)], bounded, words)

    def test_by_hand(self):
        self.check("true", [])
        self.check("y = 1 | y = 2", [])
        self.check("x = 1", [])
        self.check("x^2 + y^2 < 1", [(1, 1), (2, 1), (2, 2), (2, 3), (3, 1)])
        self.check("x*y = 1", [])
        self.check("x*y = 1 | x = 1", [(3, 1)])
        self.check("x*y = 1 | x = 2 | x = 1", [(3, 1), (4, 1), (5, 1)])
        self.check("x*(y - x) = 0", [(1, 1)])
        self.check("x^2*y^2 = 1 | x = 1", [(3, 1), (3, 2), (3, 3)])
        self.check("x^2 = 1 & y^2 = 4", [(1, 1), (1, 2), (1, 3), (2, 1), (2, 2), (2, 3), (3, 1), (3, 2), (3, 3)])


if __name__ == "__main__":
    unittest.main()
