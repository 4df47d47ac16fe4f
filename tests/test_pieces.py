"""[46], [47]: pieces, ways, holes, and which piece surrounds which."""

import copy
import inspect
import random
import unittest

from tests.naive_chart import NaiveChart
from tests.some_regions import random_regions, told_regions
from tests.test_charts import CURVES, saying_over
from tests.test_conventions import NO_PLACE, ODD
from tests.test_papers import balanced
from tests.test_sayings import NO_SAYING
from tests.test_sheets import poly
from twoletters.cells import cell_of, place_in
from twoletters.charts import chart_of, does_rim, is_bounded_cell
from twoletters.errors import InvalidIndex, InvalidPlace, InvalidSaying, TooMany
from twoletters.pieces import are_joined, does_surround, holes_of, holes_of_piece, is_bounded_piece, nesting_of, piece_at, piece_place, pieces_of, way_between
from twoletters.places import is_place
from twoletters.reader import read_saying
from twoletters.regions import cells_in
from twoletters.sayings import exchanged
from twoletters.truths import truth_at

CIRCLES = "(x^2 + y^2 - 1)*(x^2 + y^2 - 4)"


def text(words):
    return read_saying(words)


def at(x, y):
    return ((x, 1), (y, 1))


class PiecesTest(unittest.TestCase):
    def test_by_hand(self):
        for words, saying, (_, _, _, _, _, many, holes) in told_regions():
            pieces = pieces_of(saying)
            self.assertEqual((len(pieces), len(holes_of(saying))), (many, holes), words)
            self.assertEqual(tuple(sorted(cell for piece in pieces for cell in piece)), cells_in(saying))
            for told in (pieces, holes_of(saying)):
                self.assertTrue(all(list(piece) == sorted(piece) for piece in told))
                self.assertEqual(list(told), sorted(told))
            other = exchanged(saying)
            self.assertEqual((len(pieces_of(other)), len(holes_of(other))), (many, holes), words)

    def test_touching(self):
        for words, many in (
            ("[(x - 1)^2 + y^2 < 1] | [(x + 1)^2 + y^2 <= 1]", 1), ("[(x - 1)^2 + y^2 < 1] | [(x + 1)^2 + y^2 <= 1 & x != 0]", 2), ("[(x - 1)^2 + y^2 < 1] | [(x + 1)^2 + y^2 < 1] | x = 0 & y = 0", 1),
            ("x*y > 0", 2), ("x*y >= 0", 1), ("x*y > 0 | x = 0 & y = 0", 1), ("x*y > 0 | x = 0 & y = 1", 2), ("x > 0 | x < 0", 2), ("x > 0 | x < 0 | x = 0 & y = 5", 1), ("x > 0 & y > 0 | x <= 0 & y < 0", 2),
            ("x > 0 & y >= 0 | x <= 0 & y <= 0", 1), ("x > 0 & y >= 0 | x <= 0 & y < 0", 2), ("y > x^2 | y < -1*x^2", 2), ("y >= x^2 | y < -1*x^2", 1), ("y = x^2 & x != 0", 2), ("x*y = 1 | y = 0", 3), ("x*y = 1 | y = x", 1),
            ("x = 0 | x*y > 1", 3), ("x^2*y > 1 | x = 0", 3), ("x^2*y >= 0 & y > 0", 1), ("x = 1 | x = 2", 2), ("x = 1 & y > 0 | x > 1 & y < 0", 2), ("x = 1 & y >= 0 | x > 1 & y < 0", 1), ("x = 1 & y >= 0 | x > 1 & y < 0 & y + x < 0", 2),
        ):
            for saying in (text(words), exchanged(text(words))):
                self.assertEqual(len(pieces_of(saying)), many, words)

    def test_by_places_that_are_near(self):
        luck = random.Random(461)
        done = 0
        while done < 12:
            curves = luck.sample(CURVES, luck.randint(1, 2))
            saying = saying_over(curves) if luck.random() < 0.5 else balanced([(luck.choice(["below", "not above", "at", "not at"]), curve) for curve in curves])
            chart = NaiveChart(chart_of(saying)[1], curves)
            if len(chart.cells()) > 60:
                continue
            cells = list(cells_in(saying))
            self.assertEqual(pieces_of(saying), chart.pieces(cells), saying)
            outside = [cell for cell in chart.cells() if cell not in cells]
            self.assertEqual(holes_of(saying), tuple(piece for piece in chart.pieces(outside) if all(chart.is_bounded(cell) for cell in piece)), saying)
            done += 1

    def test_places_and_bounded_pieces(self):
        luck = random.Random(462)
        for saying in [saying for _, saying, _ in told_regions()] + list(random_regions(luck, 15, 3)) + list(random_regions(luck, 8, 3, True)):
            for index, piece in enumerate(pieces_of(saying)):
                place = piece_place(saying, index)
                self.assertTrue(is_place(place))
                self.assertTrue(truth_at(saying, place))
                self.assertEqual(piece_at(saying, place), index)
                self.assertIs(is_bounded_piece(saying, index), all(is_bounded_cell(saying, cell) for cell in piece))
        self.assertEqual([is_bounded_piece(text("x*y = 1 | x^2 + y^2 = 1"), index) for index in range(3)], [False, True, False])

    def test_piece_at(self):
        saying = text(CIRCLES + " > 0")
        self.assertEqual([piece_at(saying, at(x, 0)) for x in (-5, -2, 0, 1, 3)], [0, None, 1, None, 0])
        saying = text("x*y = 1")
        self.assertEqual([piece_at(saying, place) for place in (at(-1, -1), at(1, 1), at(0, 0), ((2, 1), (1, 2)), ((((-2, 0, 1), 1)), (poly("x*y - 1"), 0)))], [0, 1, None, 1, 1])
        saying = text("some y: x^2 + y^2 <= 2")
        self.assertEqual([piece_at(saying, place) for place in (at(0, 99), (((-2, 0, 1), 1), (0, 1)), (((-2, 0, 1), 0), (poly("y - x"), 0)), ((3, 2), (0, 1)))], [0, 0, 0, None])


class WaysTest(unittest.TestCase):
    def check(self, saying, place, other, joined):
        self.assertIs(are_joined(saying, place, other), joined, (saying, place, other))
        way = way_between(saying, place, other)
        self.assertEqual(way is not None, joined)
        if joined:
            polys = chart_of(saying)[0]
            self.assertEqual((way[0], way[-1]), (cell_of(polys, place), cell_of(polys, other)))
            self.assertEqual(len(set(way)), len(way))
            self.assertTrue(set(way) <= set(cells_in(saying)))
            for one, two in zip(way, way[1:]):
                self.assertTrue(does_rim(saying, one, two) or does_rim(saying, two, one))
        return way

    def test_by_hand(self):
        disc, hoop, gap = text("x^2 + y^2 < 1"), text("x^2 + y^2 = 1"), text("not x^2 + y^2 = 1")
        ring = text("1 < x^2 + y^2 & x^2 + y^2 < 4")
        self.assertEqual(len(self.check(disc, at(0, 0), at(0, 0), True)), 1)
        self.assertEqual(len(self.check(disc, at(0, 0), ((1, 2), (1, 3)), True)), 1)
        self.check(disc, at(0, 0), at(1, 0), False)
        self.check(disc, at(1, 0), at(0, 0), False)
        self.check(disc, at(1, 0), at(1, 0), False)
        self.assertEqual(len(self.check(hoop, at(0, 1), at(0, -1), True)), 3)
        self.assertEqual(len(self.check(hoop, at(1, 0), at(-1, 0), True)), 3)
        self.check(gap, at(0, 0), at(3, 0), False)
        self.check(gap, at(0, 5), at(0, -5), True)
        self.check(ring, ((-3, 2), (0, 1)), ((3, 2), (0, 1)), True)
        self.check(ring, ((0, 1), (3, 2)), ((0, 1), (-3, 2)), True)
        self.check(ring, ((0, 1), (3, 2)), at(0, 0), False)
        self.check(text("x*y = 1"), at(1, 1), at(-1, -1), False)
        self.check(text("x*y = 1 | x + y = 0"), at(1, 1), ((2, 1), (1, 2)), True)
        self.check(text("x*y >= 0"), at(1, 1), at(-1, -1), True)
        root = ((-2, 0, 1), 1)
        self.check(text("x^2 + y^2 = 4"), (root, (poly("y - x"), 0)), (root, (poly("y + x"), 0)), True)
        self.check(text("x^2 = 2"), (root, (5, 1)), (((-2, 0, 1), 0), (5, 1)), False)

    def test_exactly_if_in_one_piece(self):
        luck = random.Random(463)
        for saying in random_regions(luck, 25, 3):
            polys, _, _, truths = chart_of(saying)
            if len(polys) > 8:
                continue
            cells = [(column, level) for column, each in enumerate(truths) for level in range(len(each))]
            pieces = pieces_of(saying)
            for _ in range(6):
                one, other = luck.choice(cells), luck.choice(cells)
                joined = any(one in piece and other in piece for piece in pieces)
                self.check(saying, place_in(polys, one), place_in(polys, other), joined)


class HolesTest(unittest.TestCase):
    def test_rings_within_rings(self):
        rings = text("(x^2 + y^2 - 1)*(x^2 + y^2 - 4) = 0 | x^2 + y^2 = 9 | x = 0 & y = 0")
        self.assertEqual((len(pieces_of(rings)), nesting_of(rings)), (4, (None, 0, 1, 2)))
        self.assertEqual([len(holes_of_piece(rings, index)) for index in range(4)], [1, 1, 1, 0])
        self.assertEqual([[does_surround(rings, one, other) for other in range(4)] for one in range(4)], [[one < other for other in range(4)] for one in range(4)])
        self.assertEqual(len(holes_of(rings)), 3)

    def test_beside_one_another(self):
        beside = text("[x^2 + y^2 = 1 | (x - 3)^2 + y^2 = 1] | (x - 1)^2 + y^2 = 16 | [4*x^2 + 4*y^2 < 1 | 2*x = 13 & y = 0]")
        pieces = pieces_of(beside)
        self.assertEqual(len(pieces), 5)
        names = [piece_at(beside, place) for place in (at(-3, 0), at(-1, 0), at(0, 0), at(2, 0), ((13, 2), (0, 1)))]
        outer, left, inner, right, apart = names
        self.assertEqual(sorted(names), [0, 1, 2, 3, 4])
        nesting = nesting_of(beside)
        self.assertEqual([nesting[outer], nesting[left], nesting[inner], nesting[right], nesting[apart]], [None, outer, left, outer, None])
        self.assertEqual([does_surround(beside, outer, k) for k in names], [False, True, True, True, False])
        self.assertEqual([does_surround(beside, left, k) for k in names], [False, False, True, False, False])
        self.assertEqual([does_surround(beside, k, outer) for k in names], [False] * 5)
        self.assertEqual([len(holes_of_piece(beside, k)) for k in (outer, left, inner, right, apart)], [1, 1, 0, 1, 0])
        # The holes of the region are parted by the pieces within.
        self.assertEqual(len(holes_of(beside)), 3)

    def test_touching(self):
        eight = text("(x - 1)^2 + y^2 = 1 | (x + 1)^2 + y^2 = 1")
        self.assertEqual((len(pieces_of(eight)), len(holes_of(eight)), len(holes_of_piece(eight, 0)), nesting_of(eight)), (1, 2, 2, (None,)))
        # Rings that touch from within make one piece; an open disc in the inner one is surrounded.
        inner = text("x^2 + y^2 = 4 | (x - 1)^2 + y^2 = 1 | 4*(x - 1)^2 + 4*y^2 < 1")
        self.assertEqual(len(pieces_of(inner)), 2)
        self.assertEqual(nesting_of(inner), (None, 0))

    def test_a_hole_that_touches_the_rim(self):
        # Of the closed disc a smaller open one is taken away that touches the rim: no hole, if the place of touching is in.
        crescent = text("x^2 + y^2 <= 4 & not (x - 1)^2 + y^2 < 1")
        self.assertEqual((len(pieces_of(crescent)), len(holes_of(crescent))), (1, 1))
        opened = text("x^2 + y^2 < 4 & not (x - 1)^2 + y^2 < 1")
        self.assertEqual((len(pieces_of(opened)), len(holes_of(opened))), (1, 0))
        opened = text("x^2 + y^2 <= 4 & not (x - 1)^2 + y^2 <= 1")
        self.assertEqual((len(pieces_of(opened)), len(holes_of(opened))), (1, 0))

    def test_holes_of_the_region_and_of_one_piece(self):
        saying = text(CIRCLES + " = 0")
        self.assertEqual([len(hole) for hole in holes_of(saying)], [8, 1])
        self.assertEqual([[len(hole) for hole in holes_of_piece(saying, index)] for index in range(2)], [[13], [1]])
        self.assertTrue(set(pieces_of(saying)[1]) <= set(holes_of_piece(saying, 0)[0]))

    def test_the_holes_of_all_pieces(self):
        luck = random.Random(471)
        several = 0
        for saying in [saying for _, saying, _ in told_regions()] + list(random_regions(luck, 40)):
            pieces = pieces_of(saying)
            if not 1 < len(pieces) < 7:
                continue
            around = []
            for index, piece in enumerate(pieces):
                holes = holes_of_piece(saying, index)
                self.assertTrue(all(is_bounded_cell(saying, cell) for hole in holes for cell in hole))
                self.assertFalse(any(cell in piece for hole in holes for cell in hole))
                for other in range(len(pieces)):
                    within = [hole for hole in holes if set(pieces[other]) <= set(hole)]
                    self.assertIs(does_surround(saying, index, other), len(within) == 1)
                around.append([other for other in range(len(pieces)) if does_surround(saying, other, index)])
            for index, each in enumerate(around):
                self.assertNotIn(index, each)
                expected = [one for one in each if all(other == one or other in around[one] for other in each)]
                self.assertEqual([nesting_of(saying)[index]], expected or [None])
                several += len(each) > 0
        self.assertGreater(several, 3)


class ArgumentsTest(unittest.TestCase):
    SAYING = text(CIRCLES + " = 0")
    CALLS = [
        (pieces_of, {}), (piece_at, {"place": at(1, 0)}), (piece_place, {"index": 1}), (is_bounded_piece, {"index": 1}), (are_joined, {"place": at(1, 0), "other": at(0, 1)}),
        (way_between, {"place": at(1, 0), "other": at(0, 1)}), (holes_of, {}), (holes_of_piece, {"index": 1}), (does_surround, {"index": 0, "other": 1}), (nesting_of, {}),
    ]

    def test_all(self):
        many = balanced([("at", poly(f"y - {k}*x")) for k in range(9)])
        for function, more in self.CALLS:
            named = {"saying": self.SAYING, **more}
            self.assertEqual((list(inspect.signature(function).parameters), function.__module__), (list(named), "twoletters.pieces"))
            before = copy.deepcopy(named)
            self.assertEqual(repr(function(**dict(reversed(named.items())))), repr(function(*named.values())))
            self.assertEqual(named, before)
            for value in NO_SAYING:
                with self.assertRaises(InvalidSaying) as caught:
                    function(value, *[None] * len(more))
                self.assertIs(caught.exception.given, value)
            with self.assertRaises(TooMany) as caught:
                function(many, *[None] * len(more))
            self.assertEqual(caught.exception.given, 9)

    def test_wrong_places(self):
        for value in NO_PLACE:
            for function, values in ((piece_at, (value,)), (are_joined, (value, None)), (are_joined, (at(9, 9), value)), (way_between, (value, None)), (way_between, (at(9, 9), value))):
                with self.assertRaises(InvalidPlace) as caught:
                    function(self.SAYING, *values)
                self.assertIs(caught.exception.given, value)

    def test_wrong_indexes(self):
        wrong = [value for value in ODD if value is True or value is False or not isinstance(value, int) or value not in (0, 1)] + [2, -1, -2, 10 ** 80, (0,), "0"]
        for value in wrong:
            for function, values in ((piece_place, (value,)), (is_bounded_piece, (value,)), (holes_of_piece, (value,)), (does_surround, (value, None)), (does_surround, (1, value))):
                with self.assertRaises(InvalidIndex, msg=repr(value)) as caught:
                    function(self.SAYING, *values)
                self.assertIs(caught.exception.given, value)
        for function in (piece_place, is_bounded_piece, holes_of_piece):
            with self.assertRaises(InvalidIndex):
                function(("false",), 0)
        self.assertEqual((pieces_of(("false",)), nesting_of(("false",)), holes_of(("false",))), ((), (), ()))


if __name__ == "__main__":
    unittest.main()
