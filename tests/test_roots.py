"""[7], [8]: roots."""

import random
import unittest
from fractions import Fraction

from tests import naive
from twoletters.numbers import is_number, order
from twoletters.roots import count_roots, held_apart, roots_of
from twoletters.rows import plain, times

TWO, UNIT = (-2, 0, 1), (-1, 0, 1)
# A root of this one is less than 10 ** -60 beside that of x x - 2.
NEAR_TWO = (-2 * 10 ** 70 - 1, 0, 10 ** 70)
NEAR = [
    times(TWO, NEAR_TWO), times((-1, 10 ** 50), (-1, 10 ** 50 + 1)), times((-10 ** 60, 0, 2), (1, -10 ** 40)),
    times((-1, 3), times((-1 - 10 ** 40, 3 * 10 ** 40), (-2, 0, 18))), (-1, 0, 10 ** 90), (10 ** 90, 0, -3, 0, 1),
]


def random_rows(seed, many):
    luck = random.Random(seed)
    for _ in range(many):
        row = naive.cut([luck.randint(-5, 5) for _ in range(luck.randint(1, 5))])
        factor = (luck.randint(-4, 4), luck.randint(1, 3))
        if luck.random() < 0.5:
            row = times(row, factor)
        if luck.random() < 0.3:
            row = times(row, row)
        if luck.random() < 0.3:
            row = times(row, times(factor, factor))
        if row:
            yield row


class RootsTest(unittest.TestCase):
    def test_counting(self):
        luck = random.Random(7)
        for row in random_rows(71, 150):
            far = naive.reach(row) + 1
            self.assertEqual(count_roots(row, None, None), naive.count(row, -far, far))
            for _ in range(4):
                low, high = (Fraction(luck.randint(-12, 12), luck.randint(1, 3)) for _ in range(2))
                pair = (low.numerator, low.denominator), (high.numerator, high.denominator)
                self.assertEqual(count_roots(row, *pair), naive.count(row, low, high) if low < high else 0)
                self.assertEqual(count_roots(row, None, pair[1]), naive.count(row, min(-far, high - 1), high))
                self.assertEqual(count_roots(row, pair[0], None), naive.count(row, low, max(far, low + 1)))

    def test_ends_that_are_roots(self):
        row = times(UNIT, times(UNIT, (0, 1)))
        told = [((-1, 1), (1, 1), 2), ((-1, 1), (0, 1), 1), ((-2, 1), (-1, 1), 1), ((1, 1), (5, 1), 0), ((0, 1), (1, 1), 1)]
        for low, high, many in told:
            self.assertEqual(count_roots(row, low, high), many)
        self.assertEqual([count_roots(row, None, (-1, 1)), count_roots(row, (-1, 1), None), count_roots(row, (1, 1), None)], [1, 2, 0])

    def test_low_not_below_high(self):
        for low, high in (((0, 1), (0, 1)), ((1, 1), (-1, 1)), ((-1, 1), (-1, 1)), ((5, 2), (5, 3))):
            self.assertEqual(count_roots(UNIT, low, high), 0)
            self.assertEqual(count_roots((0, 1), low, high), 0)

    def test_numbers_and_rows_without_roots(self):
        for row in ((5,), (-1,), (1, 0, 1), (1, 1, 1), times((1, 0, 1), (1, 0, 1))):
            self.assertEqual(count_roots(row, None, None), 0)
            self.assertEqual(count_roots(row, (-1, 1), None), 0)
            self.assertEqual(roots_of(row), ())
            self.assertEqual(held_apart(row), ())

    def test_roots_twice_and_more(self):
        self.assertEqual(count_roots((0, 0, 0, 4), None, None), 1)
        self.assertEqual(count_roots(times(TWO, times(TWO, TWO)), (0, 1), None), 1)
        self.assertEqual(roots_of((0, 0, 0, 4)), ((0, 1),))
        self.assertEqual(len(roots_of(times(TWO, TWO))), 2)

    def test_fractions_are_told_as_such(self):
        row = times(times((-1, 2), (5, 3)), times(TWO, times((0, 1), (-7, 1))))
        found = roots_of(row)
        self.assertEqual([each for each in found if isinstance(each[0], int)], [(-5, 3), (0, 1), (1, 2), (7, 1)])
        self.assertEqual([order(each, (0, 1)) for each in found], [-1, -1, 0, 1, 1, 1])
        self.assertEqual([isinstance(each[0], int) for each in found], [True, False, True, True, False, True])
        many = (1,)
        for k in range(1, 13):
            many = times(many, (k - 6, k))
        parts = sorted(Fraction(6 - k, k) for k in range(1, 13))
        self.assertEqual(roots_of(many), tuple((each.numerator, each.denominator) for each in parts))

    def test_roots_are_numbers_in_order(self):
        for row in list(random_rows(72, 150)) + NEAR:
            found = roots_of(row)
            self.assertEqual(len(found), count_roots(row, None, None))
            for each in found:
                self.assertIs(is_number(each), True)
                if not isinstance(each[0], int):
                    self.assertEqual(naive.rest(plain(row), each[0]), ())
            for one, other in zip(found, found[1:]):
                self.assertEqual(order(one, other), -1)

    def check_apart(self, row):
        pairs = held_apart(row)
        found = roots_of(row)
        self.assertEqual(len(pairs), len(found))
        for (low, high), root in zip(pairs, found):
            low, high = Fraction(*low), Fraction(*high)
            if low == high:
                self.assertEqual(naive.value(row, low), 0)
                self.assertEqual((low.numerator, low.denominator), root)
            else:
                self.assertLess(low, high)
                self.assertEqual(naive.count(row, low, high) + (naive.value(row, low) == 0), 1)
        for one, other in zip(pairs, pairs[1:]):
            self.assertLess(Fraction(*one[1]), Fraction(*other[0]))
        for pair in pairs:
            for low in pair:
                self.assertEqual(low, (Fraction(*low).numerator, Fraction(*low).denominator))

    def test_held_apart(self):
        for row in list(random_rows(73, 150)) + NEAR:
            self.check_apart(row)

    def test_roots_close_together(self):
        self.assertEqual(count_roots(NEAR[0], None, None), 4)
        self.assertEqual(count_roots(NEAR[0], (1, 1), (3, 2)), 2)
        self.assertEqual([each[0] for each in held_apart((-1, 2))], [(1, 2)])
        # Wilkinson's row, and beside it.
        row = (1,)
        for k in range(1, 21):
            row = times(row, (-k, 1))
        self.assertEqual(roots_of(row), tuple((k, 1) for k in range(1, 21)))
        self.check_apart(row)
        self.assertEqual(count_roots((row[0] + 1,) + row[1:], None, None), 20)

    def test_roots_close_to_0_and_far_off(self):
        for many in (10, 10 ** 7, 10 ** 50, 10 ** 99):
            for row in ((-2, 0, many), (-3, 1, many), (1, -many, 3, many * many), (-many, 1, 0, 2), (-7 * many, 0, 1), (1, many, 1, -3, 1)):
                self.check_apart(row)
                for each in roots_of(row):
                    self.assertIs(is_number(each), True)
        row = (-2, 0, 10 ** 91)
        self.assertEqual([count_roots(row, (0, 1), (1, 10 ** 45)), count_roots(row, (0, 1), (1, 10 ** 46)), count_roots(row, None, None)], [1, 0, 2])

    def test_long_rows_of_long_numbers(self):
        luck = random.Random(74)
        for _ in range(5):
            row = tuple(luck.randint(-10 ** 100, 10 ** 100) for _ in range(24)) + (10 ** 99 + 7,)
            found = roots_of(row)
            self.assertTrue(all(is_number(each) for each in found))
            # Of unlike signs beside each root, and of an even number of roots in all.
            self.assertEqual(len(found) % 2, 0)
            for low, high in held_apart(row):
                self.assertLess(naive.value(row, Fraction(*low)) * naive.value(row, Fraction(*high)), 0)


if __name__ == "__main__":
    unittest.main()
