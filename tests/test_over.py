"""[17], [18]: numbers over a number."""

import random
import unittest
from fractions import Fraction

from tests import naive
from tests.naive_over import TINY, roots_over
from twoletters.numbers import is_number, number_in, number_times, order, sign_in
from twoletters.over import degree_at, many_common, many_roots, roots_between, split
from twoletters.polys import poly_product, poly_sum, turns_of
from twoletters.roots import count_roots, roots_of
from twoletters.rows import over, plain, times

TWO, THREE, UNIT = (-2, 0, 1), (-3, 0, 1), (-1, 0, 1)
FOUR = times(TWO, THREE)
ROOT, BACK, HALF = (TWO, 1), (TWO, 0), ((-1, 0, 2), 1)
CIRCLE, LINE, HYPER = ((-1, 0, 1), (), (1,)), ((0, -1), (1,)), ((-1,), (0, 1))
NOUGHT = (TWO,)


def constant(row):
    """A POLY of y alone."""
    return naive.poly_cut([(number,) if number else () for number in row])


class SplitTest(unittest.TestCase):
    def test_by_hand(self):
        self.assertEqual(split((FOUR, 2), TWO), (True, ROOT))
        self.assertEqual(split((FOUR, 3), TWO), (False, (THREE, 1)))
        self.assertEqual(split((FOUR, 0), TWO), (False, (THREE, 0)))
        self.assertEqual(split((FOUR, 1), times(TWO, (5, 1))), (True, BACK))
        self.assertEqual(split((FOUR, 2), times((7,), THREE)), (False, ROOT))

    def test_row_without_a_root_in_common(self):
        for row in ((5,), (-5, 0, 1), (1, 0, 1), (0, 1)):
            self.assertEqual(split((FOUR, 2), row), (False, (FOUR, 2)))

    def test_row_with_all_roots(self):
        for row in ((), FOUR, times(FOUR, (1, 1)), times((-3,), FOUR)):
            self.assertEqual(split((FOUR, 2), row), (True, (FOUR, 2)))

    def test_fractions(self):
        self.assertEqual([split((1, 2), (-1, 2)), split((1, 2), (1, 2)), split((0, 1), ()), split((0, 1), (3,))],
                         [(True, (1, 2)), (False, (1, 2)), (True, (0, 1)), (False, (0, 1))])

    def test_rows_with_fractions_as_roots(self):
        row = times(times(TWO, (-1, 1)), (-7, 5))
        self.assertEqual(split((row, 0), (-1, 1)), (False, (times(TWO, (-7, 5)), 0)))
        self.assertEqual(split((row, 3), (-1, 1)), (False, (times(TWO, (-7, 5)), 2)))
        self.assertEqual(split((row, 3), times(TWO, (-1, 1))), (True, (times(TWO, (-1, 1)), 2)))

    def test_all_together(self):
        luck = random.Random(171)
        for _ in range(80):
            factors = [luck.choice([TWO, THREE, (-5, 0, 1), (-1, 1), (1, 2), (-2, 0, 0, 1), (1, 0, 1), (-1, -1, 1)]) for _ in range(5)]
            row = plain(times(times(factors[0], factors[1]), factors[2]))
            other = times(factors[3], factors[4])
            told = [k for k in range(len(roots_of(row))) if is_number((row, k))]
            for k in told:
                is_nought, half = split((row, k), other)
                self.assertIs(is_nought, sign_in(other, (row, k)) == 0)
                self.assertIs(is_number(half), True)
                self.assertEqual(order(half, (row, k)), 0)
                self.assertIsNotNone(over(row, half[0]))
                whole = plain(other)
                if is_nought:
                    self.assertIsNotNone(over(whole, half[0]))
                rest = over(row, half[0])
                self.assertEqual(count_roots(rest, None, None) + count_roots(half[0], None, None), count_roots(row, None, None))


class DegreeTest(unittest.TestCase):
    def test_heads_that_are_0(self):
        poly = ((1,), (0, 1), TWO, (), times(TWO, THREE))
        self.assertEqual([degree_at(poly, number) for number in (ROOT, BACK, (THREE, 1), (0, 1), (FOUR, 2), (FOUR, 3))], [1, 1, 2, 4, 1, 2])
        self.assertEqual([degree_at(((1,), UNIT), number) for number in ((1, 1), (-1, 1), (0, 1))], [0, 0, 1])

    def test_nought(self):
        self.assertEqual([degree_at((), ROOT), degree_at((), (1, 2)), degree_at(NOUGHT, ROOT), degree_at((TWO, FOUR), (FOUR, 1))], [None] * 4)
        self.assertEqual([degree_at((TWO, UNIT), ROOT), degree_at((TWO,), (THREE, 0)), degree_at(((-1, 2),), (1, 2))], [1, 0, None])
        self.assertEqual([degree_at(((5,),), ROOT), degree_at(((5,),), (0, 1))], [0, 0])


class RootsTest(unittest.TestCase):
    def test_by_hand(self):
        self.assertEqual([many_roots(CIRCLE, number) for number in (HALF, (0, 1), (1, 1), (2, 1), ROOT, ((-1, 0, 2), 0))], [2, 2, 1, 0, 0, 2])
        self.assertEqual([many_roots(HYPER, number) for number in (HALF, (0, 1), (5, 1))], [1, 0, 1])
        self.assertEqual([many_roots(NOUGHT, ROOT), many_roots(NOUGHT, HALF), many_roots((), HALF), many_roots(((3,),), HALF)], [None, 0, None, 0])

    def test_double_roots(self):
        # (y - x)(y - x)(y + x) at a root and at fractions.
        poly = poly_product(poly_product(LINE, LINE), ((0, 1), (1,)))
        for number in (ROOT, HALF, (1, 2)):
            self.assertEqual(many_roots(poly, number), 2)
        self.assertEqual(many_roots(poly, (0, 1)), 1)
        self.assertEqual(many_roots(poly_product(CIRCLE, CIRCLE), HALF), 2)
        # y y + x x - 2 has one root y, twice, at the root of 2; y y y + (x x - 2) y has it three times.
        self.assertEqual([many_roots((TWO, (), (1,)), number) for number in (ROOT, BACK, (FOUR, 2), (THREE, 1))], [1, 1, 1, 0])
        self.assertEqual([many_roots(((), TWO, (), (1,)), number) for number in (ROOT, (THREE, 1), HALF)], [1, 1, 3])
        # (y y - x) (y y - x) with a head that is 0 elsewhere.
        self.assertEqual(many_roots(poly_product(((0, -1), (), (1,)), ((0, -1), (), (1,))), ROOT), 2)
        self.assertEqual(many_roots(poly_product(((0, -1), (), (1,)), ((0, -1), (), (1,))), BACK), 0)

    def test_gaps_in_the_rests(self):
        for row in ((-1, 0, 0, 0, 1), (0, -1, 0, 0, 0, 1), (1, 0, 0, 0, 0, 0, -2, 0, 1), (3, 0, 0, -4, 0, 0, 1), (1, 1, 0, 0, 0, 0, 1)):
            many = count_roots(row, None, None)
            for number in (ROOT, HALF, (FOUR, 0), (1, 3)):
                self.assertEqual(many_roots(constant(row), number), many)
                self.assertEqual(many_roots(poly_sum(constant(row), (TWO, TWO, (), TWO)), ROOT), many)

    def test_many_between(self):
        self.assertEqual([roots_between(CIRCLE, HALF, (0, 1), (1, 1)), roots_between(CIRCLE, HALF, (-1, 1), (1, 1)), roots_between(CIRCLE, HALF, (1, 1), (3, 1))], [1, 2, 0])
        self.assertEqual([roots_between(CIRCLE, HALF, (1, 1), (-1, 1)), roots_between(CIRCLE, HALF, (0, 1), (0, 1))], [0, 0])
        self.assertEqual([roots_between(NOUGHT, ROOT, (1, 1), (-1, 1)), roots_between(NOUGHT, ROOT, (0, 1), (1, 1)), roots_between((), (1, 2), (0, 1), (0, 1))], [None] * 3)
        self.assertEqual([roots_between(((4,),), ROOT, (0, 1), (1, 1)), roots_between(((4,),), (0, 1), (0, 1), (1, 1))], [0, 0])

    def test_ends_that_are_roots(self):
        # (y - 1) (y - 1) (y - x) (y + 2), over a root and over a fraction.
        poly = poly_product(poly_product(((-1,), (1,)), ((-1,), (1,))), poly_product(LINE, ((2,), (1,))))
        told = [((-2, 1), (1, 1), 1), ((-3, 1), (-2, 1), 1), ((-2, 1), (0, 1), 0), ((1, 1), (2, 1), 1), ((0, 1), (1, 1), 1), ((-3, 1), (3, 1), 3)]
        for number in (ROOT, (FOUR, 2), (3, 2)):
            for low, high, many in told:
                self.assertEqual(roots_between(poly, number, low, high), many)
        self.assertEqual(roots_between(((-1,), (1,)), ROOT, (1, 1), (2, 1)), 0)
        self.assertEqual(roots_between(((), (0, 1)), ROOT, (-1, 1), (0, 1)), 1)

    def test_common(self):
        self.assertEqual([many_common(CIRCLE, LINE, HALF), many_common(CIRCLE, LINE, (0, 1)), many_common(CIRCLE, LINE, ROOT)], [1, 0, 0])
        self.assertEqual([many_common(CIRCLE, CIRCLE, HALF), many_common(NOUGHT, CIRCLE, ROOT), many_common(NOUGHT, LINE, ROOT)], [2, 0, 1])
        self.assertEqual([many_common(NOUGHT, (), ROOT), many_common((), (), (1, 2)), many_common((), LINE, (1, 2)), many_common(((3,),), LINE, ROOT)], [None, None, 1, 0])
        self.assertEqual([many_common(((3,),), ((4,),), ROOT), many_common(((3,),), ((4,),), (0, 1)), many_common((), ((4,),), ROOT)], [0, 0, 0])
        three = poly_product(CIRCLE, LINE)
        self.assertEqual([many_common(LINE, LINE, ROOT), many_common(three, three, HALF), many_common(three, poly_product(((0, -3),), three), (FOUR, 2)), many_common(three, CIRCLE, HALF)], [1, 2, 1, 2])
        # Both heads are 0 at the root of 2; what is left has the root 1 in common.
        one, other = ((-1,), (1,), TWO), ((1,), (-1,), (), TWO)
        self.assertEqual([many_common(one, other, ROOT), many_common(other, one, BACK), many_common(one, other, (FOUR, 1))], [1, 1, 1])


CUBIC = (1, -3, 0, 1)


def quotient(number, other):
    """One NUMBER over another one."""
    if isinstance(other[0], int):
        turned = Fraction(other[1], other[0])
        return number_times(number, (turned.numerator, turned.denominator))
    row, index = other
    turned = plain(tuple(reversed(row)))
    below = count_roots(row, None, (0, 1))
    many = count_roots(row, None, None)
    # Those above 0 and those below 0 change their order.
    index = below - 1 - index if index < below else many - 1 - (index - below)
    return number_times(number, (turned, index))


def random_line(luck):
    low = naive.cut([luck.randint(-2, 2) for _ in range(luck.randint(0, 3))])
    high = luck.choice([(1,), (1,), (0, 1), (-1, 1), TWO, (3, 0, 1), (1, -3, 0, 1)])
    # A line without a root at a number at which it is nought would make all nought.
    return (low, high) if low and high not in (TWO, CUBIC) else ((luck.randint(1, 3),), high)


def random_poly(luck, high, wide):
    return naive.poly_cut([naive.cut([luck.randint(-3, 3) for _ in range(luck.randint(0, wide))]) for _ in range(luck.randint(0, high))])


def some_numbers(luck, one, other):
    """Turns of both POLYs, and other numbers, told otherwise at times."""
    found = [ROOT, HALF, (1, 2), (0, 1), (FOUR, 1)]
    for number in turns_of((one, other)):
        found.append(number)
        if not isinstance(number[0], int) and len(number[0]) < 6:
            row = times(number[0], THREE if plain(times(number[0], THREE)) == times(number[0], THREE) else (-1, 0, 0, 0, 7))
            row = plain(row)
            found += [(row, k) for k in range(len(roots_of(row))) if is_number((row, k)) and order((row, k), number) == 0]
    return luck.sample(found, min(3, len(found)))


class AllTogetherTest(unittest.TestCase):
    """Against roots that are found by Sturm's way over the number, with rests."""

    def test_over_fractions(self):
        luck = random.Random(181)
        for _ in range(150):
            third = random_poly(luck, 2, 2)
            one, other = (poly_product(random_poly(luck, 3, 3), third) for _ in range(2))
            x = Fraction(luck.randint(-6, 6), luck.randint(1, 4))
            number = (x.numerator, x.denominator)
            rows = [naive.prime(naive.cut(naive.at_x(each, x))) for each in (one, other)]
            self.assertEqual(many_roots(one, number), count_roots(rows[0], None, None) if rows[0] else None)
            self.assertEqual(degree_at(one, number), len(rows[0]) - 1 if rows[0] else None)
            low, high = (luck.randint(-3, 3), 1), (luck.choice([-3, -1, 1, 3, 5]), 2)
            self.assertEqual(roots_between(one, number, low, high), count_roots(rows[0], low, high) if rows[0] else None)
            shared = naive.divisor(*rows) if rows[0] or rows[1] else ()
            expected = count_roots(shared, None, None) if shared else None
            self.assertEqual([many_common(one, other, number), many_common(other, one, number)], [expected] * 2)

    def test_a_root_told_by_unlike_rows(self):
        luck = random.Random(182)
        for _ in range(40):
            one, other = poly_product(random_poly(luck, 3, 2), LINE), poly_product(random_poly(luck, 3, 2), ((0, 1), (1,)))
            for number, like in ((ROOT, (FOUR, 2)), (BACK, (times(TWO, (-1, 0, 0, 0, 7)), 0)), ((THREE, 1), (times(THREE, UNIT), 3))):
                self.assertEqual(order(number, like), 0)
                for poly in (one, other):
                    self.assertEqual(degree_at(poly, number), degree_at(poly, like))
                    self.assertEqual(many_roots(poly, number), many_roots(poly, like))
                    self.assertEqual(roots_between(poly, number, (-1, 1), (1, 1)), roots_between(poly, like, (-1, 1), (1, 1)))
                self.assertEqual(many_common(one, other, number), many_common(other, one, like))

    def test_roots_that_are_known(self):
        luck = random.Random(184)
        for _ in range(120):
            number = luck.choice([ROOT, BACK, HALF, (FOUR, 2), (FOUR, 3), (CUBIC, 0), (CUBIC, 2), (1, 2), (-2, 1)])
            factors = [random_line(luck) for _ in range(luck.randint(1, 4))]
            one = self.product_of(luck, [luck.choice(factors) for _ in range(luck.randint(1, 4))])
            other = self.product_of(luck, [luck.choice(factors) for _ in range(luck.randint(1, 3))])
            low, high = (luck.randint(-3, 3), 1), (luck.choice([-3, -1, 1, 3, 5]), 2)
            roots, beside = self.known_roots(one[1], number), self.known_roots(other[1], number)
            self.assertEqual(many_roots(one[0], number), len(roots))
            self.assertEqual(many_roots(other[0], number), len(beside))
            within = [root for root in roots if order(root, low) > 0 and order(root, high) <= 0]
            self.assertEqual(roots_between(one[0], number, low, high), len(within))
            shared = [root for root in roots if any(order(root, each) == 0 for each in beside)]
            self.assertEqual(many_common(one[0], other[0], number), len(shared))
            self.assertEqual(many_common(other[0], one[0], number), len(shared))

    def product_of(self, luck, lines):
        """The product of some lines, with factors without roots ahead at times, and the lines."""
        found = ((luck.choice([-2, 1, 3]),),)
        if luck.random() < 0.4:
            found = poly_product(found, ((1, luck.randint(-1, 1), 1), (), (luck.randint(1, 2), 0, 1)))
        for line in lines:
            found = poly_product(found, line)
        return found, lines

    def known_roots(self, lines, number):
        """Those of lines A + B y are - A / B, if B is not 0 there; each once."""
        found = []
        for low, high in lines:
            if sign_in(high, number):
                root = quotient(number_in(tuple(-n for n in low), number), number_in(high, number))
                if not any(order(root, each) == 0 for each in found):
                    found.append(root)
        return found

    def test_over_roots(self):
        luck = random.Random(183)
        checked = 0
        for _ in range(120):
            third = random_poly(luck, 2, 2)
            one, other = (poly_product(random_poly(luck, 3, 2), third) for _ in range(2))
            if luck.random() < 0.3:
                one = poly_product(one, one)
            for number in some_numbers(luck, one, other):
                found = roots_over(one, number)
                beside = roots_over(other, number)
                self.assertEqual(many_roots(one, number), None if found is None else len(found))
                low, high = (luck.randint(-3, 3), 1), (luck.choice([-3, -1, 1, 3, 7]), 2)
                expected = None
                if found is not None:
                    ends = Fraction(*low) + TINY, Fraction(*high) + TINY
                    expected = sum(ends[0] < (a + b) / 2 <= ends[1] for a, b in found)
                self.assertEqual(roots_between(one, number, low, high), expected)
                shared = None
                if found is not None and beside is not None:
                    shared = sum(any(a < d and c < b for c, d in beside) for a, b in found)
                elif found is not None or beside is not None:
                    shared = len(found if beside is None else beside)
                self.assertEqual([many_common(one, other, number), many_common(other, one, number)], [shared] * 2)
                checked += 1
        self.assertGreater(checked, 200)


if __name__ == "__main__":
    unittest.main()
