"""Sums, products and values of points, told as NUMBERS."""

from math import comb, gcd

from twoletters.chains import as_constants, full_rest, poly_resultant
from twoletters.points import GUARD, compare, points_of, values_over
from twoletters.rowwork import row_divided, row_prime, row_put_in, row_value, row_widened
from twoletters.stretches import stretches_of
from twoletters.wholes import fraction_of, fraction_product, fraction_sum, is_fraction, power, shared_by

SQUARE = (0, 0, 1)


def steps_row(row, k):
    """What stands with z^k in row(t - z)."""
    sign = -1 if k % 2 else 1
    return tuple([sign * comb(at, k) * number for at, number in enumerate(row) if at >= k])


def sums_row(row, other):
    """A row that has all sums of roots of two rows as roots."""
    steps = tuple([steps_row(other, k) for k in range(len(other))])
    return poly_resultant(as_constants(row), steps)


def products_row(row, other):
    """A row that has all products of roots of two rows, which do not have the root 0, as roots."""
    rising = [(0,) * k + (number,) if number else () for k, number in enumerate(other)]
    return poly_resultant(as_constants(row), tuple(rising[::-1]))


def values_row(row, other):
    """A row that has all values of a row, of degree 1 at least, at the roots of another one as roots."""
    rest = as_constants([-number for number in row[1:]])
    return poly_resultant(as_constants(other), ((-row[0], 1),) + rest)


def sum_stretch(parts):
    one, other = parts
    low = (one.low << other.bits) + (other.low << one.bits)
    high = (one.high << other.bits) + (other.high << one.bits)
    return low, high, one.bits + other.bits


def product_stretch(parts):
    one, other = parts
    corners = [one.low * other.low, one.low * other.high, one.high * other.low, one.high * other.high]
    return min(corners), max(corners), one.bits + other.bits


def does_meet(point, stretch):
    """Whether the point's stretch, or the point if it is a fraction, meets a stretch, ends let in."""
    low, high, bits = stretch
    if point.exact:
        n, m = point.exact
        return low * m <= n << bits <= high * m
    return point.low << bits <= high << point.bits and low << point.bits <= point.high << bits


def located(row, parts, stretch_over):
    """The NUMBER of that root of the row which lies in all the stretches that come of the parts."""
    points = points_of(row)
    while len(points) > 1:
        for point in parts + points:
            if not point.exact:
                point.narrow(2)
        stretch = stretch_over(parts)
        points = [point for point in points if does_meet(point, stretch)]
    return points[0].number


def own_number(point):
    """The NUMBER by the point's own row, which has no fractions as roots."""
    return point.exact or (point.row, point.index)


def moved(number, fraction):
    """A NUMBER, its row without fractions as roots, and a fraction together."""
    if is_fraction(number):
        return fraction_sum(number, fraction)
    n, m = fraction
    row, index = number
    return (row_prime(row_put_in(row_widened(row, m, 1), (-n, m))), index)


def widened(number, fraction):
    """A NUMBER, its row without fractions as roots, times a fraction other than 0."""
    if is_fraction(number):
        return fraction_product(number, fraction)
    n, m = fraction
    row, index = number
    if n < 0:
        index = len(stretches_of(row)) - 1 - index
    return (row_prime(row_widened(row, n, m)), index)


def point_sum(one, other):
    if other.exact:
        return moved(own_number(one), other.exact)
    if one.exact:
        return moved(own_number(other), one.exact)
    if compare(one, other) == 0:
        return widened(own_number(one), (2, 1))
    return located(sums_row(one.half, other.half), [one, other], sum_stretch)


def point_product(one, other):
    if (0, 1) in (one.exact, other.exact):
        return (0, 1)
    if other.exact:
        return widened(own_number(one), other.exact)
    if one.exact:
        return widened(own_number(other), one.exact)
    if compare(one, other) == 0:
        return point_value(SQUARE, one)
    return located(products_row(one.half, other.half), [one, other], product_stretch)


def point_value(row, point):
    """The row's value at the point."""
    if point.exact:
        return row_value(row, point.exact)
    whole = 1
    if len(row) >= len(point.half):
        whole = power(point.half[-1], len(row) - len(point.half) + 1)
        row = full_rest(row, point.half)
    if len(row) < 2:
        return fraction_of(row[0], whole) if row else (0, 1)
    shared = gcd(shared_by(row), whole)
    row = row_divided(row, shared)
    found = located(values_row(row, point.half), [point], lambda parts: value_stretch(row, parts[0]))
    return widened(found, (1, whole // shared))


def value_stretch(row, point):
    low, high = values_over(row, (point.low, point.high, point.bits))
    return low, high, point.bits + GUARD
