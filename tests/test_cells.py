"""[21], [22]: cells."""

import random
import unittest
from fractions import Fraction

from tests import naive, numeric
from tests.test_stacks import BACK, CIRCLE, FACTORS, HALF, HYPER, LEVEL, LINE, ROOT, SLANT, TWO, UPRIGHT, constant
from twoletters.cells import cell_of, cells_of, how_many, is_within, place_in, signs_on
from twoletters.errors import InvalidCell, InvalidPolys
from twoletters.numbers import between, is_number, order
from twoletters.places import is_place, sign_at
from twoletters.polys import poly_product, turns_of
from twoletters.stacks import stack_of

LOT = (CIRCLE, LINE)
CLOSE = (((-(10 ** 12) - 1, 10 ** 12), (1,)), ((-(10 ** 12), 10 ** 12), (1,)), LEVEL)


def some_lots(seed, many, most=3):
    luck = random.Random(seed)
    for _ in range(many):
        lot = []
        for _ in range(luck.randint(0, most)):
            lot.append(numeric.product(luck.choice(FACTORS) for _ in range(luck.randint(1, 2))))
        if lot and luck.random() < 0.2:
            lot.append(luck.choice(lot))
        if luck.random() < 0.1:
            lot.append(())
        yield tuple(lot), luck


def cells(lot):
    """All cells."""
    return [(column, level) for column, (_, _, signs) in enumerate(cells_of(lot)[1]) for level in range(len(signs))]


class CellsTest(unittest.TestCase):
    def test_by_hand(self):
        ends, stacks = cells_of(LOT)
        self.assertEqual([len(ends), len(stacks), how_many(LOT)], [4, 9, 47])
        self.assertEqual([len(signs) for _, _, signs in stacks], [3, 5, 7, 5, 7, 5, 7, 5, 3])
        self.assertEqual(ends, turns_of(LOT))
        self.assertEqual(cells_of((CIRCLE,)), (((-1, 1), (1, 1)), tuple(
            (x, *stack_of((CIRCLE,), x)) for x, _, _ in cells_of((CIRCLE,))[1]
        )))

    def test_no_turns(self):
        for lot, many in (((), 1), (((),), 1), ((((5,),),), 1), ((LINE,), 3), ((LINE, LEVEL), 13), ((LINE, LINE), 3)):
            self.assertEqual(how_many(lot), many)
            self.assertEqual(len(cells_of(lot)[1]), 2 * len(cells_of(lot)[0]) + 1)
        ends, ((x, sections, signs),) = cells_of(())
        self.assertEqual([ends, sections, signs, is_number(x)], [(), (), ((),), True])

    def test_upright_lines(self):
        self.assertEqual(how_many((((-1, 2),),)), 3)
        ends, stacks = cells_of((UPRIGHT, LINE))
        self.assertEqual([signs for _, _, signs in stacks], [
            ((1, -1), (1, 0), (1, 1)), ((0, -1), (0, 0), (0, 1)), ((-1, -1), (-1, 0), (-1, 1)), ((0, -1), (0, 0), (0, 1)),
            ((1, -1), (1, 0), (1, 1)),
        ])
        ends, stacks = cells_of((poly_product(UPRIGHT, LINE), ((-1, 2),)))
        self.assertEqual([len(signs) for _, _, signs in stacks], [3, 1, 3, 3, 3, 1, 3])
        self.assertEqual([stacks[1][2], stacks[3][2], stacks[5][2]], [((0, -1),), ((1, 0), (0, 0), (-1, 0)), ((0, 1),)])
        self.assertEqual(cells_of((SLANT,))[1][1][1:], ((), ((0,),)))

    def test_each_column_has_one_stack(self):
        for lot, luck in some_lots(211, 60):
            ends, stacks = cells_of(lot)
            self.assertEqual([order(one, other) for one, other in zip(ends, turns_of(lot))], [0] * len(ends))
            self.assertEqual(len(stacks), 2 * len(ends) + 1)
            for column, (x, sections, signs) in enumerate(stacks):
                if column % 2:
                    self.assertEqual(x, ends[column // 2])
                else:
                    self.assertIsInstance(x[0], int)
                    self.assertTrue(column == 0 or order(ends[column // 2 - 1], x) < 0)
                    self.assertTrue(column == 2 * len(ends) or order(x, ends[column // 2]) < 0)
                for number in self.numbers_in(ends, column, x, luck):
                    self.assertEqual(stack_of(lot, number), (sections, signs), (lot, number))

    def numbers_in(self, ends, column, x, luck):
        """Some numbers in a column, told otherwise, and some that are no fractions."""
        if column % 2 and isinstance(x[0], int):
            return []
        if column % 2:
            other = next(row for row in ((-7, 0, 0, 1), (5, 1), (-3, 2)) if naive.divisor(row, x[0]) == (1,))
            row = naive.product(x[0], other)
            told = [(row, index) for index in range(len(row)) if is_number((row, index)) and order((row, index), x) == 0]
            self.assertEqual(len(told), 1)
            return told
        low = ends[column // 2 - 1] if column else (x[0] - 7 * x[1], x[1])
        high = ends[column // 2] if column < 2 * len(ends) else (x[0] + 9 * x[1], x[1])
        n, m = between(low, high)
        # n / m and root 2 over a great number: still within.
        part = 10 ** 9
        moved = (2 * m * m * -1 + n * n * part * part, -2 * n * m * part * part, m * m * part * part)
        number = (naive.prime(moved), 1)
        return [(n, m)] + ([number] if order(number, high) < 0 else [])

    def test_each_stack_is_that_of_near_numbers(self):
        luck = random.Random(212)
        for _ in range(40):
            lot = [tuple(luck.choice(FACTORS) for _ in range(luck.randint(1, 2))) for _ in range(luck.randint(1, 3))]
            polys = tuple(numeric.product(factors) for factors in lot)
            for x, sections, signs in cells_of(polys)[1]:
                if isinstance(x[0], int) or len(x[0]) < 8:
                    self.assertEqual((sections, signs), numeric.stack(lot, x), (polys, x))

    def test_how_many(self):
        for lot, _ in some_lots(213, 40):
            self.assertEqual(how_many(lot), len(cells(lot)))

    def test_turns_close_to_one_another(self):
        ends, stacks = cells_of(CLOSE)
        self.assertEqual([len(ends), how_many(CLOSE)], [2, 31])
        self.assertEqual([stack[1] for stack in stacks], [
            ((2, 0), (1, 0), (0, 0)), ((1, 0), (0, 0)), ((1, 0), (2, 0), (0, 0)), ((1, 0), (0, 0)), ((1, 0), (0, 0), (2, 0)),
        ])
        self.assertEqual(cell_of(CLOSE, ((2 * 10 ** 12 - 1, 2 * 10 ** 12), (1, 1)))[0], 2)

    def test_eight_polys(self):
        lot = tuple(((-k - 1, 0, 1), (k + 1,), (1,)) for k in range(4)) + (LINE, BACK, HYPER, UPRIGHT)
        for place in (((1, 3), (1, 2)), (ROOT, (HYPER, 0)), (HALF, (1, 1))):
            column, level = cell_of(lot, place)
            self.assertEqual(signs_on(lot, (column, level)), tuple(sign_at(poly, place) for poly in lot))

    def test_many_close_polys(self):
        lot = tuple(((-k, 7 - k, k - 9), (1, k + 1), (k + 1,)) for k in range(8))
        self.assertEqual(len(cells_of(lot)[0]), len(turns_of(lot)))


class CellTest(unittest.TestCase):
    def test_by_hand(self):
        upper = (HALF, (CIRCLE, 1))
        self.assertEqual([cell_of(LOT, ((0, 1), (0, 1))), cell_of(LOT, ((2, 1), (5, 1))), cell_of(LOT, upper)], [(4, 3), (8, 2), (5, 3)])
        self.assertEqual([signs_on(LOT, (5, 3)), signs_on(LOT, (4, 3)), cell_of((), upper)], [(0, 0), (-1, 0), (0, 0)])
        self.assertEqual([cell_of((LINE,), (ROOT, (LINE, 0))), cell_of((LINE,), (ROOT, (3, 2))), cell_of((LINE,), (ROOT, (7, 5)))], [(0, 1), (0, 2), (0, 0)])

    def test_over_turns_and_between_them(self):
        ends, stacks = cells_of(LOT)
        for column, (x, sections, signs) in enumerate(stacks):
            for number in (x, (naive.product((-2, 0, 1), (-1, 0, 2)), 2 if column == 5 else 1) if column in (3, 5) else x):
                low, high = (number, (-100, 1)), (number, (100, 1))
                self.assertEqual([cell_of(LOT, low), cell_of(LOT, high)], [(column, 0), (column, 2 * len(sections))])
                for k, (poly, index) in enumerate(sections):
                    self.assertEqual(cell_of(LOT, (number, (LOT[poly], index))), (column, 2 * k + 1))

    def test_sections_told_by_any_poly(self):
        both, square = poly_product(CIRCLE, LINE), poly_product(LINE, LINE)
        self.assertEqual([cell_of(LOT, (HALF, (both, k))) for k in range(2)], [(5, 1), (5, 3)])
        self.assertEqual([cell_of(LOT, ((0, 1), (both, k))) for k in range(3)], [(4, 1), (4, 3), (4, 5)])
        self.assertEqual([cell_of(LOT, (ROOT, (square, 0))), cell_of(LOT, (ROOT, (constant(-2, 0, 1), 0)))], [(8, 1), (8, 0)])
        self.assertEqual(cell_of(LOT, (ROOT, (constant(-2, 0, 1), 1))), (8, 1))
        self.assertEqual(cell_of(LOT, (HALF, (constant(-1, 0, 2), 1))), (5, 3))
        self.assertEqual(cell_of(LOT, (HALF, (constant(-1, 0, 3), 1))), (5, 2))
        # The place may be told by a POLY that does not belong to a stack of the lot.
        self.assertEqual(cell_of((LINE,), ((1, 2), (CIRCLE, 1))), (0, 2))
        self.assertEqual(cell_of((poly_product(UPRIGHT, LINE),), (ROOT, (LINE, 0))), (3, 0))

    def test_place_in_leads_back(self):
        for lot, _ in some_lots(221, 30, 2):
            for cell in cells(lot):
                place = place_in(lot, cell)
                self.assertTrue(is_place(place))
                self.assertEqual(cell_of(lot, place), cell, (lot, place))

    def test_signs_are_those_at_the_place(self):
        for lot, luck in some_lots(222, 40):
            told = cells(lot)
            for cell in luck.sample(told, min(len(told), 6)):
                place = place_in(lot, cell)
                self.assertEqual(signs_on(lot, cell), tuple(sign_at(poly, place) for poly in lot))
                self.assertEqual(signs_on(lot, cell), cells_of(lot)[1][cell[0]][2][cell[1]])

    def test_places_of_fractions_have_their_signs(self):
        for lot, luck in some_lots(223, 60):
            x = Fraction(luck.randint(-9, 9), luck.randint(1, 4))
            y = Fraction(luck.randint(-9, 9), luck.randint(1, 4))
            place = ((x.numerator, x.denominator), (y.numerator, y.denominator))
            values = [naive.poly_value(poly, x, y) for poly in lot]
            self.assertEqual(signs_on(lot, cell_of(lot, place)), tuple(naive.sign(value) for value in values))

    def test_within(self):
        self.assertEqual([is_within(LOT, (4, 3), (CIRCLE,)), is_within(LOT, (4, 3), ()), is_within(LOT, (4, 3), LOT)], [(2, 2), (0, 0), (4, 3)])
        self.assertEqual([is_within(LOT, (5, 3), (LINE,)), is_within(LOT, (5, 3), (CIRCLE, CIRCLE)), is_within(LOT, (0, 2), (LINE,))], [(0, 1), (2, 3), (0, 2)])
        for lot, luck in some_lots(224, 30):
            others = tuple(luck.choice(lot) for _ in range(luck.randint(0, 4))) if lot else ()
            told = cells(lot)
            for cell in luck.sample(told, min(len(told), 5)):
                found = is_within(lot, cell, others)
                self.assertEqual(found, cell_of(others, place_in(lot, cell)))
                signs = dict(zip(lot, signs_on(lot, cell)))
                self.assertEqual(signs_on(others, found), tuple(signs[poly] for poly in others))
            self.assertEqual([is_within(lot, cell, lot) for cell in told[:3]], told[:3])

    def test_within_a_lot_of_more_than_eight_by_twos(self):
        self.assertEqual(is_within(LOT, (5, 3), (LINE, CIRCLE) * 6), (5, 3))

    def test_wrong_cells(self):
        wrong = [None, 5, "ab", [], [4, 3], (), (4,), (4, 3, 0), (9, 0), (-1, 0), (4, 7), (4, -1), (0, 3), (True, 0), (0, True),
                 (0, False), (False, 0), ("0", 0), (0, None), ((0, 0),), (10 ** 30, 0), (4, 10 ** 30), ((4, 3), 0)]
        for function in (signs_on, place_in, lambda polys, cell: is_within(polys, cell, None)):
            for cell in wrong:
                with self.assertRaises(InvalidCell, msg=repr(cell)) as caught:
                    function(LOT, cell)
                self.assertIs(caught.exception.given, cell)
        for cell in ((0, 0), (8, 2), (4, 6)):
            self.assertEqual(len(signs_on(LOT, cell)), 2)

    def test_wrong_others(self):
        wrong = [(None, None), ([CIRCLE], None), (CIRCLE + (5,), 0), ((LINE, HYPER), 1), ((HYPER, None), 0), ((CIRCLE, list(LINE)), 1),
                 ((LINE, ()), 1), ((((0, -1), (True,)),), 0), ((LINE, LINE, ((0, -1), (True,))), 2), ("ab", None), ({}, None)]
        for others, index in wrong:
            with self.assertRaises(InvalidPolys, msg=repr(others)) as caught:
                is_within(LOT, (4, 3), others)
            self.assertEqual(caught.exception.index, index)


class TwoRowsTest(unittest.TestCase):
    def test_a_place_over_a_turn_told_by_another_row(self):
        row = naive.product((-1, 0, 2), TWO)
        self.assertEqual(cell_of(LOT, ((row, 2), (LINE, 0))), (5, 3))
        self.assertEqual(cell_of(LOT, ((row, 3), (LINE, 0))), (8, 1))


if __name__ == "__main__":
    unittest.main()
