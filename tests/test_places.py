"""[23], [24]: PLACEs, and where two POLYs are both 0."""

import random
import unittest
from fractions import Fraction

from tests import naive, numeric
from tests.test_stacks import (
    BACK, CIRCLE, FACTORS, HALF, HYPER, LEVEL, LINE, NO_HEAD, NUMBERS, PARABOLA, ROOT, SIDEWAYS, SLANT, TOUCHING, TWO, TWO_LINES,
    UPRIGHT, constant,
)
from twoletters.errors import InvalidPlace, UnlikePlaces
from twoletters.numbers import order
from twoletters.over import many_roots
from twoletters.places import fraction_over, is_place, meets, order_over, sign_at
from twoletters.polys import common, poly_product, poly_sum
from twoletters.rows import times
from twoletters.stacks import stack_of

UPPER, LOWER = (HALF, (CIRCLE, 1)), (HALF, (CIRCLE, 0))
OTHER_HALF = (times((-1, 0, 2), TWO), 2)


class IsPlaceTest(unittest.TestCase):
    def test_places(self):
        for place in (UPPER, LOWER, ((0, 1), (0, 1)), (ROOT, (-7, 2)), (ROOT, (LINE, 0)), ((1, 1), (CIRCLE, 0)), ((0, 1), (TWO_LINES, 1)),
                      (HALF, (poly_product(UPRIGHT, LINE), 0)), (ROOT, (NO_HEAD, 0)), (OTHER_HALF, (constant(-1, 0, 2), 1))):
            self.assertIs(is_place(place), True, place)

    def test_an_index_that_is_too_great(self):
        for number, poly, many in ((HALF, CIRCLE, 2), ((1, 1), CIRCLE, 1), (ROOT, CIRCLE, 0), ((0, 1), HYPER, 0), (ROOT, NO_HEAD, 1),
                                   (ROOT, ((5,),), 0), ((1, 2), poly_product(LINE, LINE), 1), (ROOT, ((0, 0, 1), (0, -2), (1,)), 1)):
            self.assertEqual([is_place((number, (poly, k))) for k in range(4)], [k < many for k in range(4)])
            self.assertIs(is_place((number, (poly, -1))), False)

    def test_nought_there(self):
        for number, poly in ((ROOT, UPRIGHT), (ROOT, poly_product(UPRIGHT, LINE)), ((0, 1), SLANT), ((0, 1), ()), (ROOT, ())):
            self.assertIs(is_place((number, (poly, 0))), False)
        self.assertIs(is_place(((1, 1), (SLANT, 0))), True)

    def test_what_is_none(self):
        for value in (None, True, 5, "ab", (), [], {}, ((0, 1),), ((0, 1), (0, 1), (0, 1)), [(0, 1), (0, 1)], ((0, 2), (0, 1)), ((0, 1), (2, 4)),
                      ((0, 1), (0, 0)), ((0, 1), (1, -1)), ((0, 1), [0, 1]), ((0, 1), (True, 1)), ((0, 1), (0, True)), ((0, 1), None),
                      ((0, 1), (LINE, True)), ((0, 1), (LINE, False)), ((0, 1), (LINE, None)), ((0, 1), (LINE,)), ((0, 1), [LINE, 0]),
                      ((0, 1), (list(LINE), 0)), ((0, 1), (((0, -1), (True,)), 0)), ((0, 1), (((0, -1), (1, 0)), 0)), ((0, 1), (LINE, 0, 0)),
                      ((TWO, 2), (0, 1)), ((TWO, True), (0, 1)), (ROOT, (TWO, 1)), (ROOT, ROOT), (((-4, 0, 2), 1), (0, 1)),
                      naive.deep(30), (naive.deep(29), (0, 1)), ((0, 1), naive.deep(29)), ((0, 1), (naive.deep(28), 0)), "((0, 1), (0, 1))"):
            self.assertIs(is_place(value), False, value)


class SignTest(unittest.TestCase):
    def test_by_hand(self):
        self.assertEqual([sign_at(LINE, UPPER), sign_at(LINE, LOWER), sign_at(CIRCLE, UPPER), sign_at(HYPER, UPPER)], [0, -1, 0, -1])
        self.assertEqual([sign_at(LINE, (ROOT, (3, 2))), sign_at(LINE, (ROOT, (7, 5))), sign_at(TWO_LINES, (ROOT, (LINE, 0)))], [1, -1, 0])
        self.assertEqual([sign_at((), UPPER), sign_at(((-5,),), UPPER), sign_at(UPRIGHT, UPPER), sign_at(UPRIGHT, (ROOT, (0, 1)))], [0, -1, -1, 0])
        self.assertEqual([sign_at(poly_product(UPRIGHT, LINE), (ROOT, (5, 1))), sign_at(SLANT, ((0, 1), (-3, 1)))], [0, 0])

    def test_told_by_unlike_rows(self):
        for number in (HALF, OTHER_HALF, (times((-1, 0, 2), (-7, 3)), 1)):
            for poly, index in ((CIRCLE, 1), (LINE, 0), (constant(-1, 0, 2), 1), (poly_product(CIRCLE, LINE), 1)):
                place = (number, (poly, index))
                self.assertEqual([sign_at(LINE, place), sign_at(CIRCLE, place), sign_at(TWO_LINES, place), sign_at(LEVEL, place)], [0, 0, -1, -1])

    def test_all_at_numbers_that_are_near(self):
        luck = random.Random(231)
        for _ in range(200):
            one = [luck.choice(FACTORS) for _ in range(luck.randint(1, 2))]
            other = [luck.choice(FACTORS) for _ in range(luck.randint(1, 2))]
            number = luck.choice(NUMBERS)
            x = numeric.nearest(number)
            for index, y in enumerate(numeric.poly_roots(one, x) or []):
                place = (number, (numeric.product(one), index))
                self.assertEqual(sign_at(numeric.product(other), place), numeric.poly_sign(other, x, y), (one, other, number, index))
            y = Fraction(luck.randint(-5, 5), luck.randint(1, 3))
            self.assertEqual(sign_at(numeric.product(other), (number, (y.numerator, y.denominator))), numeric.poly_sign(other, x, y))


class OrderTest(unittest.TestCase):
    def test_by_hand(self):
        self.assertEqual([order_over(UPPER, (HALF, (LINE, 0))), order_over((HALF, (0, 1)), UPPER), order_over(UPPER, LOWER), order_over(LOWER, LOWER)], [0, -1, 1, 0])
        self.assertEqual([order_over(UPPER, (OTHER_HALF, (LINE, 0))), order_over((OTHER_HALF, (1, 1)), UPPER), order_over((OTHER_HALF, (1, 2)), UPPER)], [0, 1, -1])
        self.assertEqual([order_over((ROOT, (1, 3)), (ROOT, (1, 3))), order_over((ROOT, (1, 3)), (ROOT, (1, 2))), order_over(((1, 2), (0, 1)), ((1, 2), (-1, 9)))], [0, -1, 1])

    def test_fractions_ever_closer(self):
        # n / m goes to root 2, from below and from above in turn.
        n, m = 1, 1
        for k in range(300):
            place, side = (ROOT, (n, m)), 1 if k % 2 else -1
            if k % 10 < 2:
                self.assertEqual(order_over(place, (ROOT, (LINE, 0))), side)
                self.assertEqual(order_over((ROOT, (BACK, 0)), (ROOT, (-n, m))), side)
                self.assertEqual([sign_at(TWO_LINES, place), sign_at(LINE, place)], [side, side])
            n, m = n + 2 * m, n + m

    def test_one_place_told_otherwise(self):
        same = [(number, told) for number in (HALF, OTHER_HALF) for told in
                ((CIRCLE, 1), (LINE, 0), (constant(-1, 0, 2), 1), (poly_product(LINE, LINE), 0), (poly_product(CIRCLE, UPRIGHT), 1))]
        for one in same:
            for other in same:
                self.assertEqual(order_over(one, other), 0)
                with self.assertRaises(UnlikePlaces):
                    fraction_over(one, other)
        self.assertEqual(order_over(((0, 1), (LEVEL, 0)), ((0, 1), (1, 1))), 0)
        self.assertEqual(order_over(((0, 1), (CIRCLE, 0)), ((0, 1), (-1, 1))), 0)

    def test_all_at_numbers_that_are_near(self):
        luck = random.Random(232)
        for _ in range(120):
            number = luck.choice(NUMBERS)
            x = numeric.nearest(number)
            told = [(Fraction(k, 3), (number, (k, 3))) for k in (-4, -1, 2, 5)]
            for _ in range(2):
                factors = [luck.choice(FACTORS) for _ in range(luck.randint(1, 2))]
                told += [(y, (number, (numeric.product(factors), index))) for index, y in enumerate(numeric.poly_roots(factors, x) or [])]
            (low, one), (high, other) = luck.sample(told, 2)
            expected = numeric.sign(low - high)
            self.assertEqual(order_over(one, other), expected)
            self.assertEqual(order_over(other, one), -expected)
            if expected:
                found = Fraction(*fraction_over(one, other))
                self.assertTrue(min(low, high) < found < max(low, high), (one, other))
                self.assertTrue(min(low, high) < Fraction(*fraction_over(other, one)) < max(low, high))

    def test_unlike_places_come_last(self):
        for function in (order_over, fraction_over):
            for one, other in ((UPPER, ((0, 1), (0, 1))), (((0, 1), (0, 1)), ((1, 1), (0, 1))), (UPPER, (((-1, 0, 2), 0), (CIRCLE, 1))), (UPPER, (ROOT, (0, 1)))):
                with self.assertRaises(UnlikePlaces):
                    function(one, other)
            for wrong in (None, ((0, 1), (0, 2)), (HALF, (CIRCLE, 2))):
                with self.assertRaises(InvalidPlace) as caught:
                    function(wrong, ((0, 1), (0, 1)))
                self.assertIs(caught.exception.given, wrong)
                with self.assertRaises(InvalidPlace) as caught:
                    function(UPPER, wrong)
                self.assertIs(caught.exception.given, wrong)

    def test_fraction_over_by_hand(self):
        found = Fraction(*fraction_over(((0, 1), (CIRCLE, 0)), ((0, 1), (LINE, 0))))
        self.assertTrue(-1 < found < 0)
        found = Fraction(*fraction_over((ROOT, (10 ** 30, 1)), (ROOT, (LINE, 0))))
        self.assertTrue(found ** 2 > 2 and found < 10 ** 30)
        near = ((-2 * 10 ** 40 - 1,), (), (10 ** 40,))
        found = Fraction(*fraction_over((ROOT, (near, 1)), (ROOT, (LINE, 0))))
        self.assertTrue(2 < found ** 2 < 2 + Fraction(1, 10 ** 40))


class MeetsTest(unittest.TestCase):
    def check(self, one, other, expected):
        """EXPECTED are pairs of a NUMBER and a fraction or NUMBER."""
        found = meets(one, other)
        self.assertEqual(len(found), len(expected), (one, other, found))
        for place, (x, y) in zip(found, expected):
            self.assertTrue(is_place(place))
            self.assertEqual([sign_at(one, place), sign_at(other, place)], [0, 0])
            self.assertEqual(order(place[0], x), 0)
            self.assertTrue(place[1][0] in (one, other) or isinstance(place[1][0], int))
            told = (y[0], y[1]) if isinstance(y[0], int) else (constant(*y[0]), y[1])
            self.assertEqual(order_over(place, (x, told)), 0)
        self.assertEqual(len(meets(other, one)), len(found))

    def test_by_hand(self):
        back = ((-1, 0, 2), 0)
        self.check(CIRCLE, LINE, [(back, back), (HALF, HALF)])
        self.check(CIRCLE, LEVEL, [((0, 1), (1, 1))])
        self.check(CIRCLE, ((-2,), (1,)), [])
        self.check(LINE, BACK, [((0, 1), (0, 1))])
        self.check(HYPER, LINE, [((-1, 1), (-1, 1)), ((1, 1), (1, 1))])
        self.check(HYPER, BACK, [])
        self.check(PARABOLA, SIDEWAYS, [((0, 1), (0, 1)), ((1, 1), (1, 1))])

    def test_several_over_one_x(self):
        self.check(UPRIGHT, CIRCLE, [])
        self.check(((0, 1),), CIRCLE, [((0, 1), (-1, 1)), ((0, 1), (1, 1))])
        self.check(UPRIGHT, TWO_LINES, [(x, y) for x in ((TWO, 0), ROOT) for y in ((TWO, 0), ROOT)])
        four = poly_product(LINE, BACK)
        self.check(CIRCLE, four, [(x, y) for x in (((-1, 0, 2), 0), HALF) for y in (((-1, 0, 2), 0), HALF)])
        self.check(poly_product(UPRIGHT, LINE), constant(-3, 0, 1), [
            (((-3, 0, 1), 0), ((-3, 0, 1), 0)), ((TWO, 0), ((-3, 0, 1), 0)), ((TWO, 0), ((-3, 0, 1), 1)),
            (ROOT, ((-3, 0, 1), 0)), (ROOT, ((-3, 0, 1), 1)), (((-3, 0, 1), 1), ((-3, 0, 1), 1)),
        ])

    def test_heads_that_are_0(self):
        # Over 0 both lose their heads. With x y = 1, x y y + y - 1 is 2 y - 1.
        self.check(HYPER, ((-1,), (1,), (0, 1)), [((2, 1), (1, 2))])
        # Over 1 x + (x - 1) y and 1 - x + (x x - 1) y have no head. Elsewhere x / (1 - x) is 1 / (x + 1): x x + 2 x = 1.
        low, high = ((-1, 2, 1), 0), ((-1, 2, 1), 1)
        self.check(((0, 1), (-1, 1)), ((1, -1), (-1, 0, 1)), [(low, ((-1, 0, 2), 0)), (high, HALF)])
        # Over both roots of 2 the second one is 1; elsewhere 1 + x + y is 0.
        self.check(NO_HEAD, ((1,), (-2, 0, 1)), [(((-3, -2, 1, 1), 0), ((1, -1, 2, 1), 0))])

    def test_of_x_alone_and_numbers(self):
        self.assertEqual([meets(((5,),), CIRCLE), meets(CIRCLE, ((-3,),)), meets(((5,),), ((3,),)), meets(((1,),), ()), meets((), ((7,),))], [()] * 5)
        self.assertEqual([meets((), ()), meets((), CIRCLE), meets(LINE, ()), meets((), UPRIGHT)], [None] * 4)
        self.assertEqual([meets(UPRIGHT, ((0, 1),)), meets(UPRIGHT, times_row(UPRIGHT)), meets(UPRIGHT, UPRIGHT)], [(), None, None])
        self.check(constant(-2, 0, 1), UPRIGHT, [(x, y) for x in ((TWO, 0), ROOT) for y in ((TWO, 0), ROOT)])

    def test_divisor_in_common(self):
        both = poly_product(CIRCLE, LINE)
        for one, other in ((LINE, LINE), (both, LINE), (both, poly_product(LINE, BACK)), (poly_product(UPRIGHT, LINE), poly_product(UPRIGHT, BACK)),
                           (poly_product(UPRIGHT, LINE), UPRIGHT), (poly_product(((1, 0, 1),), LINE), ((1, 0, 1),))):
            self.assertIsNone(meets(one, other))
            self.assertIsNone(meets(other, one))
        # A whole number is no divisor that counts.
        self.check(poly_product(((6,),), LINE), poly_product(((4,),), BACK), [((0, 1), (0, 1))])

    def test_touching_curves_are_told_once(self):
        self.check(TOUCHING, ((-1, 1),), [((1, 1), (0, 1)), ((1, 1), (2, 1))])
        self.check(SIDEWAYS, ((0, 1),), [((0, 1), (0, 1))])
        self.check(CIRCLE, ((-1, 0, 1),), [((-1, 1), (0, 1)), ((1, 1), (0, 1))])
        self.check(poly_product(LEVEL, LEVEL), poly_product(CIRCLE, CIRCLE), [((0, 1), (1, 1))])
        self.check(poly_product(LINE, BACK), ((0, 0, 1), (), (1,)), [((0, 1), (0, 1))])

    def test_all_of_the_resultant(self):
        luck = random.Random(241)
        for _ in range(40):
            one = [luck.choice(FACTORS) for _ in range(luck.randint(1, 2))]
            other = [luck.choice(FACTORS) for _ in range(luck.randint(1, 2))]
            polys = numeric.product(one), numeric.product(other)
            found = meets(*polys)
            if common(*polys) != ((1,),):
                self.assertIsNone(found)
                continue
            expected = 0
            for a in one:
                for b in other:
                    expected += len(meets(a, b))
            self.assertLessEqual(len(found), expected)
            for k, place in enumerate(found):
                self.assertEqual([sign_at(polys[0], place), sign_at(polys[1], place)], [0, 0])
                if k:
                    side = order(found[k - 1][0], place[0])
                    self.assertTrue(side < 0 or (side == 0 and order_over(found[k - 1], place) < 0))
            for a in one:
                for b in other:
                    for place in meets(a, b):
                        self.assertTrue(any(order(place[0], each[0]) == 0 and order_over(place, each) == 0 for each in found))

    def test_each_pair_by_numbers_that_are_near(self):
        # Where the sum of squares is 0 there is a place; it is 0 nowhere between neighbouring ones.
        for k, one in enumerate(FACTORS):
            for other in FACTORS[:k]:
                found = meets(one, other)
                if found is None:
                    continue
                for place in found:
                    x = numeric.nearest(place[0])
                    poly, index = place[1]
                    y = numeric.poly_roots([poly], x)[index]
                    self.assertEqual([numeric.sign(naive.poly_value(each, x, y)) for each in (one, other)], [0, 0])
                squares = poly_sum(poly_product(one, one), poly_product(other, other))
                for x in {place[0] for place in found}:
                    if many_roots(squares, x) is not None:
                        self.assertEqual(len(stack_of((squares,), x)[0]), sum(place[0] == x for place in found))


def times_row(poly):
    return poly_product(poly, ((0, 1),))


if __name__ == "__main__":
    unittest.main()
