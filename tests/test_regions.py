"""[45], [48]: regions, closure, inner, rim, Euler numbers."""

import copy
import inspect
import random
import unittest

from tests.some_regions import random_regions, told_regions
from tests.test_papers import balanced
from tests.test_sayings import NO_SAYING
from tests.test_sheets import poly
from twoletters.charts import chart_of, dimension_of, does_rim, is_bounded_cell
from twoletters.errors import InvalidSaying, TooMany
from twoletters.pieces import holes_of, holes_of_piece, is_bounded_piece, pieces_of
from twoletters.reader import read_saying
from twoletters.regions import cells_in, closure_of, dimension, euler_number, inner_of, is_bounded, is_closed, is_open, rim_of
from twoletters.sayings import exchanged, is_saying

FUNCTIONS = [cells_in, closure_of, inner_of, rim_of, is_open, is_closed, is_bounded, dimension, euler_number]


def all_cells(saying):
    return [(column, level) for column, truths in enumerate(chart_of(saying)[3]) for level in range(len(truths))]


class TableTest(unittest.TestCase):
    def test_by_hand(self):
        for words, saying, (opened, closed, bounded, dim, euler, _, _) in told_regions():
            told = (is_open(saying), is_closed(saying), is_bounded(saying), dimension(saying), euler_number(saying))
            self.assertEqual(told, (opened, closed, bounded, dim, euler), words)
            self.assertTrue(all(isinstance(each, bool) for each in told[:3]))

    def test_exchanged(self):
        for words, saying, (opened, closed, bounded, dim, euler, _, _) in told_regions():
            other = exchanged(saying)
            self.assertEqual((is_open(other), is_closed(other), is_bounded(other), dimension(other), euler_number(other)), (opened, closed, bounded, dim, euler), words)

    def test_the_opposite(self):
        for words, saying, (opened, closed, *_) in told_regions():
            other = ("not", saying)
            self.assertEqual((is_open(other), is_closed(other)), (closed, opened), words)
            self.assertEqual(rim_of(other), rim_of(saying), words)
            self.assertEqual(sorted(cells_in(other) + cells_in(saying)), all_cells(saying))


class CellsTest(unittest.TestCase):
    def check(self, saying):
        cells = all_cells(saying)
        truths = chart_of(saying)[3]
        inside = [cell for cell in cells if truths[cell[0]][cell[1]]]
        outside = [cell for cell in cells if cell not in inside]
        self.assertEqual(cells_in(saying), tuple(inside))
        closure = [cell for cell in cells if cell in inside or any(does_rim(saying, cell, other) for other in inside)]
        inner = [cell for cell in inside if not any(does_rim(saying, cell, other) for other in outside)]
        self.assertEqual(closure_of(saying), tuple(closure), saying)
        self.assertEqual(inner_of(saying), tuple(inner), saying)
        self.assertEqual(rim_of(saying), tuple(cell for cell in closure if cell not in inner))
        self.assertEqual((is_open(saying), is_closed(saying)), (inner == inside, closure == inside))
        self.assertEqual(is_bounded(saying), all(is_bounded_cell(saying, cell) for cell in inside))
        dims = [dimension_of(cell) for cell in inside]
        self.assertEqual(dimension(saying), max(dims, default=None))
        self.assertEqual(euler_number(saying), dims.count(0) - dims.count(1) + dims.count(2))

    def test_by_the_words(self):
        for words in ("x^2 + y^2 < 1", "x^2 + y^2 <= 1 & not [x = 1 & y = 0]", "x*(y - x) = 0", "x*y = 1", "x = 0 & y > 0", "y = x | y > 1", "true", "false", "some y: x^2 + y^2 <= 1", "y != x^2", "x*y != 0", "x >= 0 & y < x"):
            self.check(read_saying(words))

    def test_by_luck(self):
        luck = random.Random(451)
        for saying in random_regions(luck, 40, 3):
            if len(all_cells(saying)) < 30:
                self.check(saying)
        for saying in random_regions(luck, 10, 3, True):
            if len(all_cells(saying)) < 30:
                self.check(saying)


class EulerTest(unittest.TestCase):
    """[48]: counted by pieces and holes, and for each piece."""

    def check(self, saying):
        pieces, holes = pieces_of(saying), holes_of(saying)
        if is_open(saying) or (is_closed(saying) and is_bounded(saying)):
            self.assertEqual(euler_number(saying), len(pieces) - len(holes), saying)
            for index, piece in enumerate(pieces):
                self.assertEqual(sum((-1) ** dimension_of(cell) for cell in piece), 1 - len(holes_of_piece(saying, index)), saying)
        if is_closed(saying) and is_saying(("not", saying)):
            bounded = sum(is_bounded_piece(saying, index) for index in range(len(pieces)))
            self.assertEqual(euler_number(saying), 1 - len(pieces_of(("not", saying))) + bounded, saying)

    def test_those_by_hand(self):
        for _, saying, _ in told_regions():
            self.check(saying)

    def test_by_luck(self):
        luck = random.Random(481)
        seen = [0, 0, 0]
        for saying in random_regions(luck, 80):
            seen[0] += is_open(saying)
            seen[1] += is_closed(saying)
            seen[2] += is_closed(saying) and is_bounded(saying)
            self.check(saying)
        self.assertGreater(min(seen), 8)


class ArgumentsTest(unittest.TestCase):
    def test_all(self):
        many = balanced([("at", poly(f"y - {k}*x")) for k in range(9)])
        saying = read_saying("x^2 + y^2 < 1 | some y: y^2 = x")
        before = copy.deepcopy(saying)
        for function in FUNCTIONS:
            self.assertEqual((list(inspect.signature(function).parameters), function.__module__), (["saying"], "twoletters.regions"))
            self.assertEqual(repr(function(saying=saying)), repr(function(saying)))
            self.assertEqual(saying, before)
            for value in NO_SAYING:
                with self.assertRaises(InvalidSaying) as caught:
                    function(value)
                self.assertIs(caught.exception.given, value)
            with self.assertRaises(TooMany) as caught:
                function(many)
            self.assertEqual(caught.exception.given, 9)


if __name__ == "__main__":
    unittest.main()
