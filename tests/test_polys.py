"""[13] to [16]: POLYs."""

import random
import unittest
from fractions import Fraction

from tests import naive
from twoletters.numbers import is_number, order, sign_in
from twoletters.polys import (
    at_x, at_y, bare, common, content, core_of, derived, discriminant, exchanged, is_poly, poly_product, poly_sum,
    resultant, turns_of, value_at,
)
from twoletters.roots import roots_of
from twoletters.rows import derivative, plain, prime_part, times
from twoletters.rows import common as common_row

CIRCLE, LINE, ONE = ((-1, 0, 1), (), (1,)), ((0, -1), (1,)), ((1,),)
HYPER, SLANT, CUSP = ((-1,), (0, 1)), ((0, 0, -1), (0, 1)), ((0, 0, 0, -1), (), (1,))
SPECIAL = [(), ((3,),), ((-6,),), ((-2, 0, 1),), ((0, 4),), ((), (2,)), ((2, 2), (-4,)), CIRCLE, LINE, HYPER, SLANT, CUSP]


def random_poly(luck, high=3, wide=3, size=4):
    rows = [naive.cut([luck.randint(-size, size) for _ in range(luck.randint(0, wide))]) for _ in range(luck.randint(0, high))]
    return naive.poly_cut(rows)


def polys(seed, many, high=3, wide=3):
    luck = random.Random(seed)
    return [luck.choice(SPECIAL) if luck.random() < 0.3 else random_poly(luck, high, wide, luck.choice([1, 4, 10 ** 20])) for _ in range(many)]


def numbers_of(poly):
    return [number for row in poly for number in row]


def is_prime_part(poly):
    return naive.prime(tuple(numbers_of(poly))) == tuple(numbers_of(poly))


def divides(by, poly):
    """Whether a POLY divides another one, with fractions; by rests in y at all whole x that are needed."""
    if not by:
        return not poly
    for x in range(-60, 61):
        one, other = naive.cut(naive.at_x(poly, x)), naive.at_x(by, x)
        if other[-1] and naive.rest(one, naive.cut(other)):
            return False
    return True


def whole(row, x):
    return naive.value(row, x)


class PolyTest(unittest.TestCase):
    def test_is_poly(self):
        for value in ((), ((1,),), ((), (1,)), ((0, 1), (), (5, -1)), CIRCLE, ((10 ** 100,), tuple(range(1, 26)))):
            self.assertIs(is_poly(value), True)
        for value in (((),), ((1,), ()), ((1, 0),), ((0,),), (1,), [(1,)], ([1],), ((True,),), None, "", {}, 5, (((1,),),)):
            self.assertIs(is_poly(value), False)

    def test_sums_and_products(self):
        for one, other in zip(polys(1, 150), polys(2, 150)):
            self.assertEqual(poly_sum(one, other), naive.poly_total(one, other))
            self.assertEqual(poly_product(one, other), naive.poly_product(one, other))
            self.assertTrue(is_poly(poly_product(one, other)))

    def test_sums_that_cancel(self):
        self.assertEqual(poly_sum(CIRCLE, ((), (), (-1,))), ((-1, 0, 1),))
        self.assertEqual(poly_sum(((1,), (0, 2), (3, 3)), ((), (0, -2), (-3, -3))), ((1,),))
        self.assertEqual(poly_sum(((1,), (2, 1)), ((-1,), (-2, -1))), ())
        self.assertEqual(poly_sum(((1,), (2, 1)), ((), (0, -1))), ((1,), (2,)))

    def test_nought(self):
        for poly in SPECIAL:
            self.assertEqual([poly_sum(poly, ()), poly_sum((), poly)], [poly, poly])
            self.assertEqual([poly_product(poly, ()), poly_product((), poly)], [(), ()])
        self.assertEqual([exchanged(()), derived(()), at_x((), (1, 2)), at_y((), (1, 2)), value_at((), (1, 2), (1, 3))], [(), (), (), (), (0, 1)])

    def test_exchanged(self):
        self.assertEqual([exchanged(((0, 1),)), exchanged(((3,),)), exchanged(((), (), (0, 1)))], [((), (1,)), ((3,),), ((), (0, 0, 1))])
        for poly in polys(3, 100):
            self.assertTrue(is_poly(exchanged(poly)))
            self.assertEqual(exchanged(exchanged(poly)), poly)
            for x, y in ((2, -3), (Fraction(1, 2), 5)):
                self.assertEqual(naive.poly_value(exchanged(poly), x, y), naive.poly_value(poly, y, x))

    def test_derived(self):
        for poly in polys(4, 80):
            expected = naive.poly_cut([tuple(k * n for n in row) for k, row in enumerate(poly)][1:])
            self.assertEqual(derived(poly), expected)
        self.assertEqual([derived(((1, 2),)), derived(((1,), (), (0, 3)))], [(), ((), (0, 6))])

    def test_values(self):
        luck = random.Random(5)
        for poly in polys(5, 100):
            x, y = (Fraction(luck.randint(-20, 20), luck.randint(1, 9)) for _ in range(2))
            told = (x.numerator, x.denominator), (y.numerator, y.denominator)
            expected = naive.poly_value(poly, x, y)
            self.assertEqual(value_at(poly, *told), (expected.numerator, expected.denominator))
            for row, values in ((at_x(poly, told[0]), naive.at_x(poly, x)), (at_y(poly, told[1]), naive.at_x(exchanged(poly), y))):
                # The least whole number is the least common multiple of what stands below.
                many = 1
                for value in values:
                    many *= (many * value).denominator
                self.assertEqual(row, naive.cut([int(value * many) for value in values]))

    def test_at_fractions(self):
        self.assertEqual([at_x(CIRCLE, (1, 2)), at_x(((2, 4),), (1, 2)), at_x(((0, 4), (0, 6)), (1, 2))], [(-3, 0, 4), (4,), (2, 3)])
        self.assertEqual([at_x(((-1, 2),), (1, 2)), at_x(((-1, 2), (1, -2)), (1, 2)), at_y(((2,), (-4,)), (1, 2))], [(), (), ()])
        self.assertEqual([at_x(((1,), (-1, 2)), (1, 2)), at_y(SLANT, (0, 1)), at_y(HYPER, (-2, 3))], [(1,), (0, 0, -1), (-3, -2)])


class DivisorTest(unittest.TestCase):
    def test_common(self):
        for one, other, third in zip(polys(6, 120, 3, 3), polys(7, 120, 3, 3), polys(8, 120, 2, 2)):
            first, second = poly_product(one, third), poly_product(other, poly_product(third, third))
            found = common(first, second)
            self.assertEqual(common(second, first), found)
            if not first and not second:
                self.assertEqual(found, ())
                continue
            self.assertTrue(is_prime_part(found))
            self.assertTrue(divides(found, first) and divides(found, second) and divides(third, found))

    def test_what_is_left_has_nothing_in_common(self):
        for one, other in zip(polys(9, 100, 3, 3), polys(10, 100, 3, 3)):
            if len(one) > 1 and len(other) > 1:
                found = common(one, other)
                self.assertEqual(resultant(one, other) == (), len(found) > 1)
            if one and other:
                self.assertEqual(prime_part(common_row(content(one), content(other))), content(common(one, other)))

    def test_powers(self):
        square, cube = poly_product(CIRCLE, CIRCLE), poly_product(CIRCLE, poly_product(CIRCLE, CIRCLE))
        self.assertEqual(common(poly_product(cube, LINE), poly_product(square, LINE)), poly_product(square, LINE))
        self.assertEqual(common(poly_product(((2,),), square), poly_product(((-3,),), CIRCLE)), CIRCLE)

    def test_special(self):
        self.assertEqual([common((), ()), common((), ((2, 2), (-4,))), common(((2, 2), (-4,)), ())], [(), ((-1, -1), (2,)), ((-1, -1), (2,))])
        self.assertEqual([common(((6,),), ((4,),)), common((), ((-4,),)), common(CIRCLE, ((5,),))], [ONE, ONE, ONE])
        self.assertEqual(common(((-2, 0, 2),), ((1, 1),)), ((1, 1),))
        self.assertEqual(common(((-1, 0, 1), (1, 1)), ((1, 1),)), ((1, 1),))
        self.assertEqual(common(((-1, 0, 1), (1, 1)), ((-1, 1), (1,))), ((-1, 1), (1,)))

    def test_rows_that_are_0_at_a_power_of_2(self):
        for k in range(1, 12):
            zero = (-2 ** k, 1)
            for one in (((1,), (1, 1)), ((1,), (0, 1)), ((1, 1),), ((3,), (), (2, 1)), ((-1, 1), (1, 1))):
                self.assertEqual(common(one, (zero, zero)), ONE)
                self.assertEqual(common((zero, zero), one), ONE)
                self.assertEqual(common(one, ((1,), zero)), ONE)
                self.assertEqual(common(poly_product((zero, zero), one), poly_product(one, one)), one)

    def test_content_and_bare(self):
        self.assertEqual([content(((3,),)), content(((0, 4),)), content(((2, 2), (-4,))), content(((), (-2, 0, 2)))], [(1,), (0, 1), (1,), (-1, 0, 1)])
        self.assertEqual([bare(((3,),)), bare(((0, 4),)), bare(((2, 2), (-4,))), bare(((-1, 0, 1), (1, 1)))], [ONE, ONE, ((-1, -1), (2,)), ((-1, 1), (1,))])
        self.assertEqual([bare(((1,), (0, -2))), bare(((1, 1), (-2, -2))), bare(((), (3, -3)))], [((-1,), (0, 2)), ((-1,), (2,)), ((), (1,))])
        for poly in polys(11, 100):
            if poly:
                row, rest = content(poly), bare(poly)
                self.assertTrue(is_prime_part(rest))
                self.assertEqual(content(rest), (1,))
                self.assertEqual(prime_part(row), row)
                product = naive.poly_product((row,), rest)
                self.assertEqual(naive.prime(tuple(numbers_of(product))), naive.prime(tuple(numbers_of(poly))))


class ResultantTest(unittest.TestCase):
    def check(self, row, one, other):
        for x in range(-3, 12):
            expected = naive.sylvester(naive.at_x(one, x), naive.at_x(other, x))
            self.assertEqual(naive.value(row, x), expected)

    def test_determinants(self):
        for one, other in zip(polys(12, 100, 4, 3), polys(13, 100, 4, 3)):
            if one and other:
                found = resultant(one, other)
                self.check(found, one, other)
                n, m = len(one) - 1, len(other) - 1
                self.assertEqual(resultant(other, one), tuple(-k for k in found) if n * m % 2 else found)

    def test_degree_0(self):
        self.assertEqual([resultant(((3,),), ((5, 1),)), resultant(((0, 1),), ((7,),))], [(1,), (1,)])
        self.assertEqual([resultant(((2, 1),), CIRCLE), resultant(CIRCLE, ((2, 1),))], [(4, 4, 1), (4, 4, 1)])
        self.assertEqual([resultant(((2, 1),), LINE), resultant(LINE, ((-3,),))], [(2, 1), (-3,)])

    def test_factor_in_common(self):
        self.assertEqual([resultant(LINE, LINE), resultant(poly_product(CIRCLE, LINE), poly_product(LINE, HYPER))], [(), ()])
        # A common divisor of x alone makes no 0 everywhere.
        one, other = poly_product(((0, 1),), LINE), poly_product(((0, 1),), HYPER)
        self.assertNotEqual(resultant(one, other), ())
        self.check(resultant(one, other), one, other)

    def test_discriminant(self):
        for poly in polys(14, 120, 5, 3):
            if len(poly) > 1:
                found = discriminant(poly)
                n = len(poly) - 1
                for x in range(-3, 12):
                    values = naive.at_x(poly, x)
                    if values[-1]:
                        expected = naive.sylvester(values, tuple(k * value for k, value in enumerate(values))[1:]) / values[-1]
                        self.assertEqual(naive.value(found, x), -expected if n * (n - 1) // 2 % 2 else expected)

    def test_discriminant_by_hand(self):
        a, b, c = (0, 1), (1, 1), (2, 0, 3)
        four = naive.product((-4,), naive.product(a, c))
        self.assertEqual(discriminant((c, b, a)), naive.total(naive.product(b, b), four))
        self.assertEqual([discriminant(LINE), discriminant(((5,), (0, 7))), discriminant(CIRCLE)], [(1,), (1,), (4, 0, -4)])
        # y y y + p y + q: - 4 p p p - 27 q q.
        self.assertEqual(discriminant(((0, 1), (1,), (), (1,))), (-4, 0, -27))
        self.assertEqual(discriminant(((-1,), (), (), (), (1,))), (-256,))

    def test_discriminant_of_squares(self):
        for poly in (CIRCLE, LINE, HYPER):
            self.assertEqual(discriminant(poly_product(poly, poly)), ())
            self.assertEqual(discriminant(poly_product(poly, poly_product(poly, ((0, 1),)))), ())


class LotTest(unittest.TestCase):
    def lots(self, seed, many):
        luck = random.Random(seed)
        for _ in range(many):
            lot = [luck.choice(SPECIAL) if luck.random() < 0.5 else random_poly(luck, 3, 3, 3) for _ in range(luck.randint(0, 4))]
            if lot and luck.random() < 0.4:
                lot.append(poly_product(luck.choice(lot), luck.choice(lot)))
            yield tuple(lot)

    def test_core(self):
        for lot in self.lots(15, 80):
            found = core_of(lot)
            product = ONE
            for poly in lot:
                if len(poly) > 1:
                    product = poly_product(product, poly)
            if product == ONE:
                self.assertEqual(found, ONE)
                continue
            product = bare(product)
            self.assertEqual((bare(found), content(found)), (found, (1,)))
            # The product is the core times what it has in common with its derivative.
            self.assertEqual(poly_product(found, common(product, derived(product))), product)
            self.assertEqual(core_of(tuple(reversed(lot))), found)
            self.assertEqual(core_of(lot + lot[:2]), found)
            self.assertNotEqual(discriminant(found) if len(found) > 1 else 1, ())

    def test_core_by_hand(self):
        self.assertEqual([core_of(()), core_of(((),)), core_of((((0, 2),), ((5,),), ()))], [ONE, ONE, ONE])
        self.assertEqual([core_of((LINE, LINE)), core_of((poly_product(LINE, LINE),)), core_of((SLANT,))], [LINE, LINE, LINE])
        self.assertEqual(core_of((((0, -1), (0, 0, 1)), ((2, 2), (-4,)))), poly_product(((-1,), (0, 1)), ((-1, -1), (2,))))
        self.assertEqual(core_of((CIRCLE, LINE)), core_of((LINE, CIRCLE, poly_product(CIRCLE, LINE))))

    def test_parts_of_a_product_beside_it(self):
        both, all_three = poly_product(CIRCLE, LINE), poly_product(poly_product(CIRCLE, LINE), HYPER)
        self.assertEqual(core_of((both, LINE)), both)
        self.assertEqual(core_of((LINE, both)), both)
        self.assertEqual(core_of((all_three, LINE)), core_of((CIRCLE, LINE, HYPER)))
        self.assertEqual(core_of((all_three, poly_product(LINE, LINE), both)), core_of((HYPER, LINE, CIRCLE)))
        self.assertEqual(core_of((poly_product(both, LINE),)), both)
        self.check_turns((both, LINE))
        self.check_turns((all_three, poly_product(HYPER, LINE)))

    def check_turns(self, lot):
        found = turns_of(lot)
        core = core_of(lot)
        rows = [content(poly) for poly in lot if poly] + [core[-1]]
        if len(core) > 1:
            rows.append(discriminant(core))
        whole_row = (1,)
        for row in rows:
            whole_row = times(whole_row, plain(row))
        expected = roots_of(whole_row)
        self.assertEqual([order(one, other) for one, other in zip(found, expected)], [0] * len(expected), lot)
        self.assertEqual(len(found), len(expected))
        self.assertTrue(all(is_number(each) for each in found))
        for one, other in zip(found, found[1:]):
            self.assertEqual(order(one, other), -1)

    def test_turns(self):
        for lot in self.lots(16, 80):
            self.check_turns(lot)

    def test_turns_by_hand(self):
        self.assertEqual([turns_of(()), turns_of(((),)), turns_of((((5,),),)), turns_of((LINE,))], [(), (), (), ()])
        self.assertEqual([turns_of((CIRCLE,)), turns_of((poly_product(CIRCLE, CIRCLE),)), turns_of((CIRCLE, CIRCLE))], [((-1, 1), (1, 1))] * 3)
        self.assertEqual([turns_of((HYPER,)), turns_of((SLANT,)), turns_of((CUSP,))], [((0, 1),)] * 3)
        self.assertEqual([turns_of((((0, 2),),)), turns_of((((-1, 0, 4), ), ()))], [((0, 1),), ((-1, 2), (1, 2))])
        self.assertEqual([turns_of((CIRCLE, ((-1, 1),))), turns_of((CIRCLE, ((-1, 3), (1,))))], [((-1, 1), (1, 1)), ((-1, 1), (0, 1), (3, 5), (1, 1))])
        found = turns_of((CIRCLE, LINE))
        self.assertEqual([sign_in((-1, 0, 2), each) for each in found], [1, 0, 0, 1])
        self.assertEqual(turns_of((LINE, CIRCLE))[0], (-1, 1))

    def test_turns_of_many(self):
        lot = tuple(((-k - 1, 0, 1), (k - 9,), (1, k + 1)) for k in range(4))
        self.check_turns(lot)
        self.check_turns((poly_product(lot[0], lot[3]), lot[3], poly_product(lot[0], lot[0]), ((-2, 0, 0, 1),)))


class SameTest(unittest.TestCase):
    def test_derivative_of_rows_is_that_of_constants(self):
        for row in ((), (5,), (1, 2, 3)):
            told = tuple((number,) if number else () for number in row)
            self.assertEqual(derived(told), tuple((number,) for number in derivative(row)))


if __name__ == "__main__":
    unittest.main()
