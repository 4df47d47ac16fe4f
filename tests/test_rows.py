"""[6]: rows."""

import random
import unittest
from fractions import Fraction

from tests import naive
from twoletters.rows import (
    common, derivative, is_row, less, over, plain, plus, prime_part, put_in, times, value_at,
)

TWO, UNIT = (-2, 0, 1), (-1, 0, 1)


def random_row(luck, degree, size):
    return naive.cut([luck.randint(-size, size) for _ in range(degree + 1)])


class RowsTest(unittest.TestCase):
    def setUp(self):
        self.luck = random.Random(6)

    def rows(self, many, degree=6):
        for _ in range(many):
            yield random_row(self.luck, self.luck.randint(-1, degree), self.luck.choice([1, 4, 30, 10 ** 40]))

    def test_is_row(self):
        for value in ((), (0, 1), (-3,), (10 ** 100, -1), tuple(range(1, 26))):
            self.assertIs(is_row(value), True)
        for value in ((0,), (1, 0), (True,), (1, True), [1], None, "1", ((1,),), {}, (1, None)):
            self.assertIs(is_row(value), False)

    def test_sums_and_products(self):
        for one, other in zip(self.rows(300), self.rows(300)):
            self.assertEqual(plus(one, other), naive.total(one, other))
            self.assertEqual(less(one, other), naive.total(one, tuple(-n for n in other)))
            self.assertEqual(times(one, other), naive.product(one, other))

    def test_long_products(self):
        for _ in range(30):
            one = random_row(self.luck, self.luck.randint(7, 40), self.luck.choice([1, 2, 10 ** 100]))
            other = random_row(self.luck, self.luck.randint(5, 40), self.luck.choice([1, 2, 10 ** 100]))
            self.assertEqual(times(one, other), naive.product(one, other))

    def test_upper_parts_cancel(self):
        self.assertEqual(plus((1, 2, 3), (1, -2, -3)), (2,))
        self.assertEqual(plus((1, 2, 3), (-1, -2, -3)), ())
        self.assertEqual(less((0, 0, 3), (1, 0, 3)), (-1,))
        self.assertEqual(less(TWO, TWO), ())

    def test_nought_and_numbers(self):
        self.assertEqual([plus((), TWO), plus(TWO, ()), less((), TWO), times((), TWO), times(TWO, ())], [TWO, TWO, (2, 0, -1), (), ()])
        self.assertEqual([derivative(()), derivative((7,)), derivative((7, 3))], [(), (), (3,)])
        self.assertEqual([prime_part(()), prime_part((-7,)), prime_part((6,))], [(), (1,), (1,)])
        self.assertEqual([value_at((), (3, 4)), value_at((-5,), (3, 4)), value_at(TWO, (0, 1))], [(0, 1), (-5, 1), (-2, 1)])
        self.assertEqual([times((3,), (4,)), plus((3,), (-3,)), put_in((3,), TWO)], [(12,), (), (3,)])

    def test_derivative_and_value(self):
        for row in self.rows(100):
            self.assertEqual(derivative(row), naive.slope(row))
            at = Fraction(self.luck.randint(-50, 50), self.luck.randint(1, 30))
            found = naive.value(row, at)
            self.assertEqual(value_at(row, (at.numerator, at.denominator)), (found.numerator, found.denominator))

    def test_prime_part(self):
        self.assertEqual([prime_part((4, -6)), prime_part((0, 0, -5)), prime_part((4, 6))], [(-2, 3), (0, 0, 1), (2, 3)])
        for row in self.rows(100):
            self.assertEqual(prime_part(row), naive.prime(row))

    def test_common(self):
        self.assertEqual([common((), ()), common((), (4, -6)), common((4, -6), ()), common((5,), TWO)], [(), (-2, 3), (-2, 3), (1,)])
        self.assertEqual(common((4,), (6,)), (1,))
        self.assertEqual(common((), (-9,)), (1,))
        cube = times(TWO, times(TWO, TWO))
        self.assertEqual(common(times(cube, (1, 1)), times(times(TWO, TWO), (3, 1))), times(TWO, TWO))
        for one, other, third in zip(self.rows(200, 4), self.rows(200, 4), self.rows(200, 3)):
            one, other = times(one, third), times(other, times(third, third))
            self.assertEqual(common(one, other), naive.divisor(one, other))

    def test_common_of_values_that_have_more_in_common(self):
        # At each whole number x (x + 1) is even.
        self.assertEqual(common((0, 1, 1), (2, 1, 1)), (1,))
        self.assertEqual(common((6, 11, 6, 1), (24, 6, 11, 6, 1)), (1,))

    def test_over(self):
        self.assertEqual(over(times(TWO, UNIT), (2, -2)), (-2, -2, 1, 1))
        self.assertEqual([over(TWO, UNIT), over(TWO, times(TWO, TWO)), over((3,), TWO)], [None, None, None])
        self.assertEqual([over((2, 4), (3,)), over((-6,), (4,)), over((), TWO), over((), (2,))], [(1, 2), (1,), (), ()])
        # 2 x + 1 divides with fractions only.
        self.assertEqual(over((1, 3, 2), (-6, -12)), (1, 1))
        self.assertEqual(over((1, 2), (2, 4)), (1,))
        for one, other in zip(self.rows(200, 4), self.rows(200, 4)):
            if other:
                self.assertEqual(over(times(one, other), other), naive.prime(one))
                divides = not naive.rest(one, other)
                self.assertEqual(over(one, other) is not None, divides)

    def test_plain(self):
        self.assertEqual([plain((7,)), plain((-7,)), plain((4, -6)), plain((0, 0, 0, -2))], [(1,), (1,), (-2, 3), (0, 1)])
        squares = times(times(TWO, TWO), times(UNIT, times(UNIT, UNIT)))
        self.assertEqual(plain(squares), times(TWO, UNIT))
        self.assertEqual(plain(times((-3,), squares)), times(TWO, UNIT))
        for one, other in zip(self.rows(150, 3), self.rows(150, 2)):
            row = times(one, times(other, other))
            if row:
                expected = naive.prime(row)
                if len(row) > 1:
                    shared = naive.divisor(row, naive.slope(row))
                    self.assertEqual(naive.prime(naive.product(plain(row), shared)), expected)
                    self.assertEqual(naive.divisor(plain(row), naive.slope(plain(row))), (1,))
                self.assertEqual(plain(plain(row)), plain(row))

    def test_put_in(self):
        self.assertEqual([put_in(TWO, ()), put_in((0, 1), ()), put_in((), TWO), put_in((), ())], [(-2,), (), (), ()])
        self.assertEqual([put_in(TWO, (3,)), put_in((-9, 0, 1), (3,)), put_in(TWO, (0, 1))], [(7,), (), TWO])
        self.assertEqual(put_in(TWO, (1, 1)), (-1, 2, 1))
        for one, other in zip(self.rows(60, 4), self.rows(60, 3)):
            found = put_in(one, other)
            self.assertTrue(is_row(found))
            for at in (-2, 0, 3, Fraction(5, 7)):
                self.assertEqual(naive.value(found, at), naive.value(one, naive.value(other, at)))


if __name__ == "__main__":
    unittest.main()
