"""[8], [9]: NUMBERS."""

import random
import unittest
from fractions import Fraction

from tests import naive
from twoletters.numbers import between, is_number, near, number_in, number_plus, number_times, order, sign_in
from twoletters.roots import roots_of
from twoletters.rows import plain, times

TWO, THREE, UNIT = (-2, 0, 1), (-3, 0, 1), (-1, 0, 1)
ROOT, BACK = (TWO, 1), (TWO, 0)
THIRD = (THREE, 1)
CUBE = ((-2, 0, 0, 1), 0)
FAR = 10 ** 80


def stretch_of(number, bits=160):
    """Two fractions close to one another from the first to the second of which the number lies."""
    if isinstance(number[0], int):
        return Fraction(*number), Fraction(*number)
    row, index = number
    low, high = naive.stretches(row, 4)[index]
    while (high - low) * 2 ** bits > 1:
        middle = (low + high) / 2
        if naive.sign(naive.value(row, middle)) == naive.sign(naive.value(row, low)):
            low = middle
        else:
            high = middle
    return low, high


def about(number):
    return sum(stretch_of(number)) / 2


def random_number(luck):
    while True:
        row = naive.cut([luck.randint(-5, 5) for _ in range(luck.randint(2, 4))])
        if luck.random() < 0.4:
            row = times(row, (luck.randint(-3, 3), luck.randint(1, 3)))
        if len(row) < 2:
            continue
        row = plain(row)
        found = roots_of(row)
        if not found:
            continue
        at = luck.randrange(len(found))
        return found[at] if isinstance(found[at][0], int) else (row, at)


def numbers(seed, many):
    luck = random.Random(seed)
    return [random_number(luck) for _ in range(many)]


TINY = Fraction(1, 10 ** 40)


class NumberTest(unittest.TestCase):
    def test_fractions(self):
        for value in ((0, 1), (-5, 3), (10 ** 100, 10 ** 100 + 1)):
            self.assertIs(is_number(value), True)
        for value in ((2, 4), (0, 2), (1, 0), (1, -1), (-1, -1), (1,), (1, 1, 1), [1, 1], (True, 1), (1, True), 1):
            self.assertIs(is_number(value), False)

    def test_roots(self):
        for value in (ROOT, BACK, CUBE, (times(TWO, THREE), 3), (times(TWO, UNIT), 0), (times(TWO, UNIT), 3)):
            self.assertIs(is_number(value), True)
        for index in (-1, 2, True, False, None, "1", (1,), 10 ** 30):
            self.assertIs(is_number((TWO, index)), False)

    def test_rows_that_are_not_their_own_plain_row(self):
        for row in ((-4, 0, 2), (2, 0, -1), times(TWO, TWO), times(TWO, (0, 0, 1)), (-2, 0, 1, 0), list(TWO)):
            for index in (0, 1, 2):
                self.assertIs(is_number((row, index)), False)

    def test_degree_0_and_1(self):
        for row in ((), (5,), (1,), (-1, 2), (0, 1)):
            self.assertIs(is_number((row, 0)), False)

    def test_index_of_a_fraction(self):
        row = times(times(TWO, (-1, 1)), (3, 2))
        self.assertEqual([is_number((row, k)) for k in range(5)], [False, True, False, True, False])
        self.assertEqual(order((row, 1), BACK), 0)
        self.assertEqual(order((row, 3), ROOT), 0)

    def test_row_without_roots(self):
        self.assertIs(is_number(((1, 0, 1), 0)), False)
        self.assertIs(is_number((times((1, 0, 1), TWO), 1)), True)
        self.assertIs(is_number((times((1, 0, 1), TWO), 2)), False)


class OrderTest(unittest.TestCase):
    def test_one_number_by_unlike_rows(self):
        luck = random.Random(91)
        for number in numbers(90, 60):
            if isinstance(number[0], int):
                continue
            row, index = number
            factor = plain(times(row, (luck.randint(-9, 9), 0, luck.randint(1, 4), 1)))
            found = [order(number, other) for other in roots_of(factor)]
            self.assertEqual(found.count(0), 1)
            self.assertEqual(found, sorted(found, reverse=True))
            same = roots_of(factor)[found.index(0)]
            self.assertEqual(order(same, number), 0)
            self.assertEqual(sign_in(row, same), 0)
            self.assertIsNone(between(same, number))

    def test_roots_of_one_row(self):
        row = times(times(TWO, THREE), (-5, 0, 1))
        for i in range(6):
            for j in range(6):
                self.assertEqual(order((row, i), (row, j)), naive.sign(i - j))
                self.assertEqual(sign_in(row, (row, i)), 0)

    def test_fractions_close_to_a_root(self):
        k = int(near(ROOT, 10 ** 6)[0])
        self.assertEqual(k, 1414213)
        low, high = stretch_of(ROOT, 330)
        for end, side in ((low, 1), (high, -1)):
            fraction = (end.numerator, end.denominator)
            self.assertEqual(order(ROOT, fraction), side)
            self.assertEqual(order(fraction, ROOT), -side)
            self.assertEqual(sign_in((-end.numerator, end.denominator), ROOT), side)
            parted = Fraction(*between(ROOT, fraction))
            self.assertEqual(naive.sign(parted - end), side)
            self.assertEqual(order(ROOT, (parted.numerator, parted.denominator)), side)

    def test_roots_close_to_a_root(self):
        near_two = (-2 * FAR - 1, 0, FAR)
        self.assertEqual(order(ROOT, (near_two, 1)), -1)
        self.assertEqual(order(BACK, (near_two, 0)), 1)
        self.assertEqual(sign_in(near_two, ROOT), -1)
        found = Fraction(*between(ROOT, (near_two, 1)))
        self.assertTrue(2 < found ** 2 < 2 + Fraction(1, FAR))

    def test_all_together(self):
        some = numbers(92, 60)
        for one, other in zip(some, reversed(some)):
            difference = about(one) - about(other)
            expected = 0 if abs(difference) < TINY else naive.sign(difference)
            self.assertEqual(order(one, other), expected)
            self.assertEqual(order(other, one), -expected)
            found = between(one, other)
            self.assertEqual(found, between(one, other))
            if expected == 0:
                self.assertIsNone(found)
            else:
                for each in (found, between(other, one)):
                    self.assertIs(is_number(each), True)
                    low, high = sorted([about(one), about(other)])
                    self.assertTrue(low < Fraction(*each) < high)

    def test_between(self):
        self.assertEqual([order(between((0, 1), (1, 1)), end) for end in ((0, 1), (1, 1))], [1, -1])
        self.assertIsNone(between((1, 2), (1, 2)))
        self.assertIsNone(between(ROOT, (times(TWO, UNIT), 3)))
        for one, other in ((ROOT, (3, 2)), ((1, 1), ROOT), (BACK, (-1, 1)), ((-3, 2), BACK), (BACK, ROOT), ((0, 1), ROOT)):
            for first, second in ((one, other), (other, one)):
                found = between(first, second)
                self.assertEqual([order(one, found), order(found, other)], [-1, -1])

    def test_between_fractions(self):
        luck = random.Random(99)
        told = [(Fraction(-1, 2), Fraction(1, 2)), (Fraction(-1), Fraction(1)), (Fraction(-5, 2), Fraction(-1, 2)), (Fraction(0), Fraction(2))]
        for _ in range(300):
            one = Fraction(luck.randint(-40, 40), luck.randint(1, 12))
            told.append((one, one + Fraction(luck.randint(1, 30), luck.choice([1, 2, 7, 10 ** 9]))))
        for one, other in told:
            pairs = [(each.numerator, each.denominator) for each in (one, other)]
            for found in (between(*pairs), between(*reversed(pairs))):
                self.assertIs(is_number(found), True)
                self.assertTrue(one < Fraction(*found) < other)

    def test_between_numbers_next_to_one_another(self):
        for n in (-7, 0, 5):
            for one, other in (((n, 1), (n + 1, 1)), ((n * 10 ** 9 + 1, 10 ** 9), (n * 10 ** 9 + 3, 10 ** 9))):
                found = Fraction(*between(other, one))
                self.assertTrue(Fraction(*one) < found < Fraction(*other))


class SignTest(unittest.TestCase):
    def test_signs(self):
        luck = random.Random(93)
        for number in numbers(94, 80):
            row = naive.cut([luck.randint(-6, 6) for _ in range(luck.randint(0, 7))])
            if luck.random() < 0.3 and not isinstance(number[0], int):
                row = times(row, number[0])
            found = naive.value(row, about(number))
            self.assertEqual(sign_in(row, number), 0 if abs(found) < TINY else naive.sign(found))

    def test_nought_and_numbers(self):
        for number in (ROOT, (1, 2)):
            self.assertEqual([sign_in((), number), sign_in((3,), number), sign_in((-3,), number)], [0, 1, -1])

    def test_rows_with_roots_in_common(self):
        row = times(TWO, times(THREE, (-1, 1)))
        self.assertEqual([sign_in(row, each) for each in (ROOT, BACK, THIRD, (1, 1), CUBE, (3, 2))], [0, 0, 0, 0, 1, -1])
        self.assertEqual(sign_in(THREE, (times(TWO, THREE), 2)), -1)
        self.assertEqual(sign_in(TWO, (times(TWO, THREE), 2)), 0)


class NearTest(unittest.TestCase):
    def test_edges(self):
        self.assertEqual([near(ROOT, 1), near(BACK, 1), near(ROOT, 10), near(BACK, 10)], [(1, False), (-2, False), (14, False), (-15, False)])
        self.assertEqual([near(ROOT, 10 ** 6), near(BACK, 10 ** 6)], [(1414213, False), (-1414214, False)])
        self.assertEqual([near((1, 2), 4), near((1, 2), 1), near((-1, 2), 1), near((-1, 2), 2)], [(2, True), (0, False), (-1, False), (-1, True)])
        self.assertEqual([near((-7, 3), 10 ** 6), near((0, 1), 7), near((-2, 1), 1)], [(-2333334, False), (0, True), (-2, True)])
        self.assertEqual(near((10 ** 99 + 1, 10 ** 99), 1), (1, False))

    def test_close_to_a_step(self):
        # The root of x x = 1 + 10 ** - 80, and that of x x = 1 - 10 ** - 80.
        self.assertEqual(near(((-FAR - 1, 0, FAR), 1), 3), (3, False))
        self.assertEqual(near(((-FAR + 1, 0, FAR), 1), 3), (2, False))
        self.assertEqual(near(((-FAR - 1, 0, FAR), 0), 3), (-4, False))

    def test_all_together(self):
        for number in numbers(95, 60):
            for many in (1, 2, 7, 999, 10 ** 6):
                k, is_it = near(number, many)
                low, high = stretch_of(number)
                self.assertTrue(Fraction(k, many) <= high and low < Fraction(k + 1, many))
                self.assertIs(is_it, isinstance(number[0], int) and Fraction(*number) == Fraction(k, many))


class SumTest(unittest.TestCase):
    def check(self, found, expected):
        self.assertIs(is_number(found), True)
        self.assertLess(abs(about(found) - expected), TINY)

    def test_all_together(self):
        some = numbers(96, 50)
        for one, other in zip(some, reversed(some)):
            self.check(number_plus(one, other), about(one) + about(other))
            self.check(number_times(one, other), about(one) * about(other))

    def test_fractions(self):
        self.assertEqual(number_plus((1, 2), (1, 3)), (5, 6))
        self.assertEqual(number_times((2, 3), (-3, 4)), (-1, 2))
        self.assertEqual(number_plus((1, 2), (-1, 2)), (0, 1))

    def test_what_comes_to_be_a_fraction(self):
        self.assertEqual([number_plus(ROOT, BACK), number_times(ROOT, BACK), number_times(ROOT, ROOT)], [(0, 1), (-2, 1), (2, 1)])
        self.assertEqual([number_times(ROOT, (0, 1)), number_times((0, 1), BACK), number_plus(((-1, -2, 1), 1), BACK)], [(0, 1), (0, 1), (1, 1)])
        self.assertEqual(number_times(((-1, -2, 1), 1), ((-1, -2, 1), 0)), (-1, 1))
        told_otherwise = (times(TWO, UNIT), 0)
        self.assertEqual([number_plus(ROOT, told_otherwise), number_times(told_otherwise, BACK)], [(0, 1), (2, 1)])
        self.assertEqual(number_times(CUBE, ((-4, 0, 0, 1), 0)), (2, 1))

    def test_what_comes_to_be_a_fraction_that_is_not_whole(self):
        half, eighth = (-1, 0, 2), (-1, 0, 8)
        self.assertEqual([number_times((half, 1), (eighth, 1)), number_times((eighth, 0), (half, 1))], [(1, 4), (-1, 4)])
        self.assertEqual([number_plus(((-1, -4, 4), 1), (half, 0)), number_plus((half, 1), ((-1, -4, 4), 0))], [(1, 2), (1, 2)])
        for m in (3, 5, 1000):
            # The first one is 1 / m and the root of 7.
            one, other = ((1 - 7 * m * m, -2 * m, m * m), 1), ((-7, 0, 1), 0)
            self.assertEqual([number_plus(one, other), number_plus(other, one)], [(1, m), (1, m)])
            self.assertEqual(number_times(((-7, 0, m * m), 1), (times((-7, 0, 1), (1, 1)), 0)), (-7, m))

    def test_with_itself_and_with_0(self):
        for number in (ROOT, BACK, CUBE, (times(TWO, UNIT), 3)):
            self.assertEqual(order(number_plus(number, (0, 1)), number), 0)
            self.assertEqual(order(number_plus((0, 1), number), number), 0)
            self.assertEqual(order(number_times(number, (1, 1)), number), 0)
            self.assertEqual(order(number_plus(number, number), number_times((2, 1), number)), 0)
            self.assertEqual(order(number_times(number, number), number_in((0, 0, 1), number)), 0)

    def test_with_fractions(self):
        for number in (ROOT, BACK, CUBE, (times(TWO, UNIT), 0), (times(TWO, THREE), 2)):
            for fraction in ((1, 2), (-5, 3), (7, 1), (-1, 1)):
                for one, other in ((number, fraction), (fraction, number)):
                    self.check(number_plus(one, other), about(number) + Fraction(*fraction))
                    self.check(number_times(one, other), about(number) * Fraction(*fraction))

    def test_unlike_rows_both_ways_round(self):
        ten = ((1, 0, -10, 0, 1), 3)
        for one, other in ((ROOT, THIRD), (THIRD, ROOT)):
            self.assertEqual(order(number_plus(one, other), ten), 0)
            self.assertEqual(order(number_times(one, other), ((-6, 0, 1), 1)), 0)
        for one in (ROOT, BACK, (times(TWO, THREE), 0), CUBE):
            for other in (THIRD, CUBE, (times(THREE, (-1, 1)), 0)):
                self.assertEqual(order(number_plus(one, other), number_plus(other, one)), 0)
                self.assertEqual(order(number_times(one, other), number_times(other, one)), 0)
                self.check(number_plus(one, other), about(one) + about(other))
                self.check(number_times(one, other), about(one) * about(other))

    def test_what_was_returned_is_taken_again(self):
        number = ROOT
        for other in (THIRD, ((-5, 0, 1), 1), (1, 3)):
            number = number_plus(number, other)
        self.check(number, about(ROOT) + about(THIRD) + about(((-5, 0, 1), 1)) + Fraction(1, 3))
        self.assertEqual(sign_in(number[0], number), 0)


class ValueTest(unittest.TestCase):
    check = SumTest.check

    def test_all_together(self):
        luck = random.Random(97)
        for number in numbers(98, 60):
            row = naive.cut([luck.randint(-6, 6) for _ in range(luck.randint(0, 7))])
            self.check(number_in(row, number), naive.value(row, about(number)))

    def test_edges(self):
        row = times(TWO, THREE)
        for number in (ROOT, CUBE, (row, 2), (5, 3)):
            self.assertEqual([number_in((), number), number_in((-3,), number)], [(0, 1), (-3, 1)])
            self.assertEqual(order(number_in((0, 1), number), number), 0)
        self.assertEqual([number_in(TWO, ROOT), number_in(row, (row, 3)), number_in(TWO, (row, 1))], [(0, 1), (0, 1), (0, 1)])
        self.assertEqual([number_in(TWO, (row, 0)), number_in((0, 0, 0, 0, 3), ROOT), number_in(TWO, (3, 2))], [(1, 1), (12, 1), (1, 4)])
        self.assertEqual(order(number_in((0, 0, 0, 1), ROOT), ((-8, 0, 1), 1)), 0)

    def test_heads_above_1(self):
        half = ((-1, 0, 2), 1)
        self.assertEqual([number_in((0, 0, 1), half), number_in((1, 0, 0, 0, 4), half)], [(1, 2), (2, 1)])
        self.check(number_in((1, 2, 3, 4, 5, 6), half), naive.value((1, 2, 3, 4, 5, 6), about(half)))

    def test_long_numbers(self):
        number = ((-10 ** 99 - 7, 3, 10 ** 98), 0)
        row = tuple((-3) ** k * 10 ** (60 - k) for k in range(25))
        found = number_in(row, number)
        self.assertIs(is_number(found), True)
        # The value at both ends of a narrow stretch tells about where it lies.
        low, high = stretch_of(number, 320)
        expected = naive.value(row, low)
        self.assertLess(abs(sum(stretch_of(found, 200)) / 2 - expected), Fraction(1, 10 ** 20))


if __name__ == "__main__":
    unittest.main()
