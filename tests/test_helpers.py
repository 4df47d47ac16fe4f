"""What the modules that check nothing promise to those that stand on them."""

import random
import unittest
from fractions import Fraction

from tests import naive
from twoletters.chains import poly_subresultants, subresultants
from twoletters.curves import cuts, plainer, sides_of, told_sign
from twoletters.points import GUARD, values_over
from twoletters.rowgcd import parted
from twoletters.rowwork import packed, row_rest, row_widened, unpacked
from twoletters.wholes import simplest_between


def random_row(luck, degree, size=5):
    return naive.cut([luck.randint(-size, size) for _ in range(degree)] + [luck.choice([-3, -1, 1, 2])])


def subresultant(one, other, k):
    """The polynomial made of determinants."""
    n, m = len(one) - 1, len(other) - 1
    rows = [(0,) * i + one for i in reversed(range(m - k))] + [(0,) * i + other for i in range(n - k)]
    many = n + m - 2 * k
    rows = [row + (0,) * (n + m - k - len(row)) for row in rows]
    upper = [tuple(reversed(row))[:many - 1] for row in rows]
    return naive.cut([int(naive.determinant([row + (whole[at],) for row, whole in zip(upper, rows)])) for at in range(k + 1)])


class HelpersTest(unittest.TestCase):
    def setUp(self):
        self.luck = random.Random(200)

    def test_rests_keep_their_sign(self):
        for _ in range(200):
            row, by = random_row(self.luck, self.luck.randint(0, 6)), random_row(self.luck, self.luck.randint(0, 4))
            found, expected = row_rest(row, by), naive.rest(row, by)
            self.assertEqual(naive.prime(found), naive.prime(expected))
            if found:
                self.assertEqual(found[-1] > 0, expected[-1] > 0)

    def test_subresultants(self):
        for _ in range(150):
            n = self.luck.randint(1, 6)
            m = self.luck.randint(0, n - 1)
            one, other = random_row(self.luck, n, self.luck.choice([1, 4])), random_row(self.luck, m, self.luck.choice([1, 4]))
            found = subresultants(one, other)
            self.assertEqual((len(found), found[n], found[n - 1]), (n + 1, one, other))
            for k in range(n - 1):
                self.assertEqual(found[k], subresultant(one, other, k) if k <= m else (), (one, other, k))

    def test_subresultants_of_polys(self):
        one = ((1, 2), (0, 0, 3), (), (-1, 1))
        other = ((5,), (1, -1), (0, 2))
        found = poly_subresultants(one, other)
        for x in (-3, 2, 5):
            values = [tuple(int(naive.value(row, x)) for row in each) for each in (one, other)]
            for k in range(2):
                self.assertEqual(naive.cut([int(naive.value(row, x)) for row in found[k]]), subresultant(*values, k))

    def test_packing(self):
        for _ in range(100):
            row = random_row(self.luck, self.luck.randint(0, 9), 7)
            self.assertEqual(unpacked(packed(row, 4), 4), row)
            self.assertEqual(packed(row, 4), naive.value(row, 16))
        self.assertEqual(unpacked(0, 4), ())

    def test_stretches_of_values(self):
        for _ in range(200):
            row = random_row(self.luck, self.luck.randint(0, 5))
            low, bits = self.luck.randint(-9, 9), self.luck.randint(0, 4)
            stretch = (low, low + 1, bits)
            least, most = values_over(row, stretch)
            for part in (0, 1, 2, 3):
                value = naive.value(row, Fraction(3 * low + part, 3 * 2 ** bits)) * 2 ** (bits + GUARD)
                self.assertTrue(least <= value <= most)

    def test_signs_told_by_bounds(self):
        many = 0
        for _ in range(400):
            size = self.luck.randint(1, 5)
            bounds = [tuple(sorted(self.luck.randint(-9, 9) for _ in range(2))) for _ in range(size)]
            n, bits = self.luck.randint(-9, 9), self.luck.randint(0, 3)
            told = told_sign(sides_of(bounds), n, bits)
            many += told != 0
            values = [naive.value([self.luck.randint(low, high) for low, high in bounds], Fraction(n, 2 ** bits)) for _ in range(40)]
            if told:
                self.assertTrue(all(value * told > 0 for value in values))
            corners = []
            for end in (0, 1):
                ends = [bound[end if n >= 0 or k % 2 == 0 else 1 - end] for k, bound in enumerate(bounds)]
                corners.append(naive.value(ends, Fraction(n, 2 ** bits)))
            self.assertEqual(told, 1 if corners[0] > 0 else -1 if corners[1] < 0 else 0)
        self.assertTrue(50 < many < 350)

    def test_numbers_between(self):
        seen = set()
        for tries in range(5):
            found = [Fraction(n, 2 ** (5 + 3 + tries)) for n in cuts(-7, 4, tries)]
            self.assertTrue(all(Fraction(-7, 32) < each < Fraction(4, 32) for each in found))
            self.assertEqual(len(set(found) | seen), len(found) + len(seen))
            seen |= set(found)
        self.assertEqual([plainer(-8, 4, 5), plainer(-8, 4, 1), plainer(-3, 4, 5), plainer(0, 16, 2), plainer(0, 6, 9)], [(-2, 1, 3), (-4, 2, 0), (-3, 4, 5), (0, 4, 0), (0, 3, 8)])

    def test_parted(self):
        one, other, third = (-2, 0, 1), (-1, 1), (1, 0, 1)
        rows = [naive.product(one, other), naive.product(other, third), (), (5,), naive.product(one, one)]
        self.assertEqual(sorted(parted(rows)), sorted([one, other, third]))

    def test_widened(self):
        for n, m in ((2, 3), (-5, 7), (1, 1)):
            row = random_row(self.luck, 4)
            found = row_widened(row, n, m)
            for x in (-2, 1, 3):
                self.assertEqual(naive.value(found, x), naive.value(row, Fraction(m * x, n)) * n ** 4)

    def test_simplest_fraction(self):
        for _ in range(300):
            low = Fraction(self.luck.randint(-60, 60), self.luck.randint(1, 20))
            high = low + Fraction(self.luck.randint(1, 40), self.luck.randint(1, 60))
            n, m = simplest_between((low.numerator, low.denominator), (high.numerator, high.denominator))
            self.assertTrue(low < Fraction(n, m) < high)
            for less in range(1, m):
                self.assertFalse(low < Fraction(int(low * less // 1) + 1, less) < high)


if __name__ == "__main__":
    unittest.main()
