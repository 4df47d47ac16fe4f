"""[19], [20]: stacks."""

import random
import unittest
from fractions import Fraction

from tests import naive, numeric
from tests.naive_over import roots_over
from twoletters.errors import InvalidIndex
from twoletters.numbers import number_plus
from twoletters.polys import poly_product, value_at
from twoletters.rows import times
from twoletters.stacks import fraction_on, stack_of

CIRCLE, LINE, HYPER, BACK = ((-1, 0, 1), (), (1,)), ((0, -1), (1,)), ((-1,), (0, 1)), ((0, 1), (1,))
PARABOLA, SIDEWAYS, TWO_LINES = ((0, 0, -1), (1,)), ((0, -1), (), (1,)), ((-2,), (), (1,))
UPRIGHT, SLANT, ELLIPSE = ((-2, 0, 1),), ((0, 0, -1), (0, 1)), ((-1, 1, 1), (0, 1), (1,))
LEVEL, NO_HEAD, TOUCHING = ((-1,), (1,)), ((1, 1), (2,), (-2, 0, 1)), ((-1, 0, 1), (-2,), (1,))
FACTORS = [CIRCLE, LINE, HYPER, BACK, PARABOLA, SIDEWAYS, TWO_LINES, SLANT, ELLIPSE, LEVEL, NO_HEAD, TOUCHING,
           ((-2, 0, 1),), ((-1, 1),), ((-3,),), ((5,),), ((1, 0, 1), (), (1,)), ((0, 0, 1), (0, 2), (1,)), ((0, -4), (0, 0, 2), (1,))]
TWO, THREE = (-2, 0, 1), (-3, 0, 1)
ROOT, HALF, CUBE = (TWO, 1), ((-1, 0, 2), 1), ((-2, 0, 0, 1), 0)
NUMBERS = [(0, 1), (1, 1), (-1, 1), (2, 1), (1, 2), (-7, 3), (TWO, 0), ROOT, HALF, ((-1, 0, 2), 0), CUBE,
           (times(TWO, THREE), 2), (times(TWO, (-1, 1)), 2), ((-1, -1, 1), 1), ((1, -10, 0, 0, 0, 3), 1)]


def constant(*numbers):
    return tuple((number,) if number else () for number in numbers)


def poly_of(factors):
    return numeric.product(factors)


class StackTest(unittest.TestCase):
    def check(self, lot, number):
        expected = numeric.stack(lot, number)
        polys = tuple(poly_of(factors) for factors in lot)
        self.assertEqual(stack_of(polys, number), expected, (polys, number))
        return expected

    def test_by_hand(self):
        self.assertEqual(stack_of((CIRCLE, LINE), (0, 1)), (((0, 0), (1, 0), (0, 1)), ((1, -1), (0, -1), (-1, -1), (-1, 0), (-1, 1), (0, 1), (1, 1))))
        self.assertEqual(stack_of((CIRCLE, LINE), HALF), (((0, 0), (0, 1)), ((1, -1), (0, -1), (-1, -1), (0, 0), (1, 1))))
        self.assertEqual(stack_of((LINE, CIRCLE), HALF), (((1, 0), (0, 0)), ((-1, 1), (-1, 0), (-1, -1), (0, 0), (1, 1))))
        self.assertEqual(stack_of((CIRCLE,), (1, 1)), (((0, 0),), ((1,), (0,), (1,))))
        self.assertEqual(stack_of((CIRCLE,), ROOT), ((), ((1,),)))

    def test_no_sections(self):
        self.assertEqual([stack_of((), (0, 1)), stack_of((), ROOT)], [((), ((),))] * 2)
        self.assertEqual([stack_of(((),), ROOT), stack_of(((), ((-3,),)), (1, 2))], [((), ((0,),)), ((), ((0, -1),))])
        self.assertEqual([stack_of((UPRIGHT,), ROOT), stack_of((UPRIGHT,), (1, 1)), stack_of((UPRIGHT,), HALF)], [((), ((0,),)), ((), ((-1,),)), ((), ((-1,),))])

    def test_nought_there(self):
        # x y - x x is nought at 0 and has no sections there, though y - x has one.
        self.assertEqual(stack_of((SLANT,), (0, 1)), ((), ((0,),)))
        self.assertEqual(stack_of((SLANT, LEVEL), (0, 1)), (((1, 0),), ((0, -1), (0, 0), (0, 1))))
        self.assertEqual(stack_of((SLANT, LEVEL), (1, 1)), (((0, 0),), ((-1, -1), (0, 0), (1, 1))))
        nought = poly_product(UPRIGHT, LINE)
        self.assertEqual(stack_of((nought, LINE), ROOT), (((1, 0),), ((0, -1), (0, 0), (0, 1))))
        self.assertEqual(stack_of((nought, LINE), (1, 1)), (((0, 0),), ((1, -1), (0, 0), (-1, 1))))
        self.assertEqual(stack_of((nought, ()), (times(TWO, THREE), 2)), ((), ((0, 0),)))

    def test_the_least_index_tells(self):
        both = poly_product(LINE, CIRCLE)
        self.assertEqual(stack_of((LEVEL, both, CIRCLE, LINE), (0, 1))[0], ((1, 0), (1, 1), (0, 0)))
        self.assertEqual(stack_of((CIRCLE, both), (0, 1))[0], ((0, 0), (1, 1), (0, 1)))
        self.assertEqual(stack_of((LINE, LINE), ROOT), (((0, 0),), ((-1, -1), (0, 0), (1, 1))))
        twice = naive.poly_product(((-2,),), LINE)
        self.assertEqual(stack_of((twice, LINE), ROOT), (((0, 0),), ((1, -1), (0, 0), (-1, 1))))

    def test_squares(self):
        square, cube = poly_product(LINE, LINE), poly_product(LINE, poly_product(LINE, LINE))
        for number in ((1, 3), ROOT):
            self.assertEqual(stack_of((square, cube), number), (((0, 0),), ((1, -1), (0, 0), (1, 1))))
        # y y - 2 x y + x x - 1 + 1 at 1 is a square there alone.
        self.assertEqual(stack_of((TOUCHING,), (1, 1)), (((0, 0), (0, 1)), ((1,), (0,), (-1,), (0,), (1,))))
        double = ((0, 0, 1), (0, -2), (1,))
        self.assertEqual(stack_of((double,), ROOT), (((0, 0),), ((1,), (0,), (1,))))

    def test_where_the_head_is_0(self):
        self.assertEqual(stack_of((HYPER,), (0, 1)), ((), ((-1,),)))
        self.assertEqual(stack_of((NO_HEAD,), ROOT), (((0, 0),), ((-1,), (0,), (1,))))
        self.assertEqual(stack_of((((1,), (-2, 0, 1)),), ROOT), ((), ((1,),)))

    def test_heads_that_are_0_where_roots_are_in_common(self):
        # (x x - 2) y y + y - x, the same with 2 y - 2 x, and two of degree 3: over root 2 the heads are 0.
        one, other = ((0, -1), (1,), (-2, 0, 1)), ((0, -2), (2,), (-2, 0, 1))
        three, four = ((0, -1), (1, -1), (1,), (-2, 0, 1)), ((0, 1), (-1, -1), (1,), (-2, 0, 1))
        self.assertEqual(stack_of((one, other), ROOT), (((0, 0),), ((-1, -1), (0, 0), (1, 1))))
        self.assertEqual(stack_of((one, other, TWO_LINES), ROOT), (((2, 0), (0, 0)), ((-1, -1, 1), (-1, -1, 0), (-1, -1, -1), (0, 0, 0), (1, 1, 1))))
        self.assertEqual(stack_of((three, four), ROOT), (((0, 0), (1, 0), (0, 1)), ((1, 1), (0, 1), (-1, 1), (-1, 0), (-1, -1), (0, 0), (1, 1))))
        self.assertEqual(stack_of((one, three), ROOT)[0], ((1, 0), (0, 0)))
        self.assertEqual(stack_of((four, other), (times(TWO, THREE), 2))[0], ((0, 0), (0, 1)))

    def test_heads_that_are_nearly_0(self):
        near = (-2 * 10 ** 40 - 1, 0, 10 ** 40)
        for rows in (((1,), near), ((0, 1), (1, 1), near), ((-5, 1), near, (1,)), ((3,), (1, 7), near)):
            for number in ((TWO, 0), ROOT):
                self.check([(rows,)], number)
                self.check([(rows,), (LINE,), (rows, BACK)], number)

    def test_great_and_small_roots(self):
        for k in (1, 10, 20):
            great, small = ((-10 ** k, 0, 1), (0, 1)), ((0, 0, -1), (0, 10 ** k))
            both = ((1,), (-(10 ** k), 3), (0, 1))
            for number in (ROOT, (TWO, 0), HALF, (3, 7)):
                self.check([(great,), (small,), (both,)], number)
                self.check([(great, small), (both, LINE), (small, BACK)], number)

    def test_numbers_told_by_unlike_rows(self):
        lot = (CIRCLE, LINE, poly_product(UPRIGHT, BACK), TWO_LINES)
        told = [ROOT, (times(TWO, THREE), 2), (times(TWO, (-7, 5)), 2), (times(TWO, (-2, 0, 0, 1)), 2)]
        self.assertEqual(len({stack_of(lot, number) for number in told}), 1)
        self.assertEqual(stack_of(lot, ROOT), (((3, 0), (1, 0)), ((1, -1, 0, 1), (1, -1, 0, 0), (1, -1, 0, -1), (1, 0, 0, 0), (1, 1, 0, 1))))

    def test_all_sections_at_numbers_that_are_near(self):
        luck = random.Random(191)
        for _ in range(250):
            lot = []
            for _ in range(luck.randint(0, 5)):
                lot.append(tuple(luck.choice(FACTORS) for _ in range(luck.randint(1, 3))))
            if lot and luck.random() < 0.3:
                lot.append(luck.choice(lot))
            self.check(lot, luck.choice(NUMBERS))

    def test_each_pair_at_each_number(self):
        for k, one in enumerate(FACTORS):
            for other in FACTORS[k:]:
                for number in NUMBERS[::2] if k % 2 else NUMBERS[1::2]:
                    self.check([(one,), (other,)], number)

    def test_many_roots_close_to_one_another(self):
        lines = [((-1000 * k - 10 ** 12,), (10 ** 15,)) for k in range(3)]
        self.check([(line,) for line in lines] + [(((0, 0, -1), (10 ** 3,)), lines[1])], ROOT)
        near = ((-2 * 10 ** 24 - 1,), (), (10 ** 24,))
        self.check([(near,), (LINE,), (BACK,)], ROOT)
        self.check([(near,), (LINE,), (TWO_LINES, ((0, -1000001), (1000000,)))], ROOT)

    def test_higher_degrees(self):
        luck = random.Random(192)
        for _ in range(40):
            polys = []
            for _ in range(2):
                rows = [naive.cut([luck.randint(-3, 3) for _ in range(4)]) for _ in range(luck.randint(2, 5))]
                polys.append(naive.poly_cut(rows))
            number = luck.choice(NUMBERS[:-1])
            sections, signs = stack_of(tuple(polys), number)
            roots = [roots_over(poly, number) for poly in polys]
            told = [(low, high, k, j) for k, each in enumerate(roots) for j, (low, high) in enumerate(each or [])]
            told.sort()
            if any(one[1] >= other[0] for one, other in zip(told, told[1:])):
                continue
            self.assertEqual(sections, tuple((k, j) for _, _, k, j in told))
            self.assertEqual(len(signs), 2 * len(told) + 1)

    def test_degree_24(self):
        row = tuple(0 if k % 3 else (-1) ** k * (k + 1) for k in range(25))
        poly = constant(*row)
        expected = len(naive.stretches(row, 20))
        for number in ((1, 2), ROOT):
            self.assertEqual(len(stack_of((poly,), number)[0]), expected)

    def test_many_roots_of_one_poly_with_long_rows(self):
        # y - k x x + 1 has the root 2 k - 1 over root 2, y - x^5 + k the root 4 root 2 - k.
        odd = [((1, 0, -k), (1,)) for k in range(1, 5)]
        steep = [((k, 0, 0, 0, 0, -1), (1,)) for k in range(4)]
        for number in (ROOT, (times(TWO, THREE), 2), (3, 2)):
            self.check([tuple(odd + steep)], number)
            self.check([tuple(odd + steep), tuple(odd[:2] + odd[:2] + steep[2:]), (LINE,)], number)
        # 1, 4 root 2 - 3, 3, 4 root 2 - 2, 4 root 2 - 1, 5, 4 root 2, 7: the second one has those that are not 4 root 2 less 1 to 3.
        found = stack_of((poly_of(odd + steep), poly_of(odd + steep[:1] * 4)), ROOT)
        self.assertEqual(found[0], tuple((0, k) for k in range(8)))
        self.assertEqual([signs[1] == 0 for signs in found[1][1::2]], [True, False, True, False, False, True, True, True])

    def test_signs_stand_for_all_places(self):
        lot = (CIRCLE, LINE, poly_product(SLANT, BACK), TWO_LINES)
        for number in ((1, 3), (3, 2), (-2, 1), (0, 1)):
            signs = stack_of(lot, number)[1]
            for level in range(0, len(signs), 2):
                y = fraction_on(lot, number, level)
                for k, poly in enumerate(lot):
                    n, m = value_at(poly, number, y)
                    self.assertEqual(signs[level][k], (n > 0) - (n < 0))


class FractionOnTest(unittest.TestCase):
    def test_each_even_level(self):
        luck = random.Random(193)
        for _ in range(80):
            lot = [tuple(luck.choice(FACTORS) for _ in range(luck.randint(1, 2))) for _ in range(luck.randint(0, 4))]
            number = luck.choice(NUMBERS)
            polys = tuple(poly_of(factors) for factors in lot)
            x = numeric.nearest(number)
            roots = [numeric.poly_roots(factors, x) for factors in lot]
            sections = numeric.unlike([root for each in roots if each is not None for root in each])
            for k in range(len(sections) + 1):
                y = Fraction(*fraction_on(polys, number, 2 * k))
                self.assertTrue(k == 0 or sections[k - 1] < y)
                self.assertTrue(k == len(sections) or y < sections[k])

    def test_if_there_is_just_one(self):
        for lot in ((), (UPRIGHT,), ((),), (CIRCLE,)):
            n, m = fraction_on(lot, ROOT, 0)
            self.assertGreater(m, 0)
            with self.assertRaises(InvalidIndex) as caught:
                fraction_on(lot, ROOT, 2)
            self.assertEqual(caught.exception.given, 2)

    def test_very_close_sections(self):
        near = ((-2 * 10 ** 40 - 1,), (), (10 ** 40,))
        n, m = fraction_on((near, LINE), ROOT, 4)
        self.assertTrue(2 < Fraction(n, m) ** 2 < 2 + Fraction(1, 10 ** 40))

    def test_close_to_what_two_polys_have_in_common(self):
        # (y - x) (10^12 (y - x) - 1) + (x x - 2) y y y has the roots root 2 and a little more over root 2.
        great = 10 ** 12
        poly = ((0, 1, great), (-1, -2 * great), (great,), (-2, 0, 1))
        for lot in ((LINE, poly), (poly, LINE)):
            self.assertEqual(len(stack_of(lot, ROOT)[0]), 2)
            values = [Fraction(*fraction_on(lot, ROOT, level)) for level in (0, 2, 4)]
            self.assertTrue(values[0] ** 2 < 2 < values[1] ** 2 and (values[1] - Fraction(1, great)) ** 2 < 2 < (values[2] - Fraction(1, great)) ** 2)
        mirrored = tuple(tuple(-n for n in row) if k % 2 else row for k, row in enumerate(poly))
        for lot in ((BACK, mirrored), (mirrored, BACK)):
            values = [Fraction(*fraction_on(lot, ROOT, level)) for level in (0, 2, 4)]
            self.assertTrue(values[2] > values[1] > values[0] and values[2] ** 2 < 2 < values[1] ** 2 and (values[1] + Fraction(1, great)) ** 2 < 2 < (values[0] + Fraction(1, great)) ** 2)

    def test_great_and_small_sections(self):
        far = ((-(10 ** 90),), (1,))
        tiny = ((-1,), (10 ** 90,))
        lot = (far, tiny, LINE)
        self.assertEqual(stack_of(lot, ROOT)[0], ((1, 0), (2, 0), (0, 0)))
        values = [Fraction(*fraction_on(lot, ROOT, level)) for level in (0, 2, 4, 6)]
        self.assertTrue(values[0] < Fraction(1, 10 ** 90) < values[1] < Fraction(3, 2) and values[1] ** 2 < 2)
        self.assertTrue(values[2] ** 2 > 2 and values[2] < 10 ** 90 < values[3])

    def test_refused(self):
        for level in (1, 3, -1, -2, 8, 100, True, False, None, "0", (0,), 10 ** 30):
            with self.assertRaises(InvalidIndex) as caught:
                fraction_on((CIRCLE, LINE), (0, 1), level)
            self.assertIs(caught.exception.given, level)


class UnlikeRowsTest(unittest.TestCase):
    def test_sums_told_by_long_rows(self):
        number = number_plus(ROOT, (THREE, 1))
        # At root 2 + root 3 the line y = x meets y y = 5 + 2 root 6, which is a root of y^4 - 10 y y + 1.
        lot = (LINE, constant(1, 0, -10, 0, 1))
        self.assertEqual(stack_of(lot, number)[0], ((1, 0), (1, 1), (1, 2), (0, 0)))


if __name__ == "__main__":
    unittest.main()
