"""Stacks once more, by numbers that are near: POLYs are told by factors of degree 2 at most in y, solved by hand."""

from fractions import Fraction
from functools import lru_cache
from math import isqrt

from tests import naive

BITS = 400
TINY = Fraction(1, 2 ** 150)


@lru_cache(None)
def nearest(number):
    """A fraction very near to a NUMBER."""
    if isinstance(number[0], int):
        return Fraction(*number)
    row, index = number
    low, high = naive.stretches(row, 20)[index]
    below = sign_of(naive.value(row, low))
    # From here on the row has one root, and that just once: its sign is enough.
    for _ in range(BITS):
        middle = (low + high) / 2
        low, high = (middle, high) if sign_of(naive.value(row, middle)) == below else (low, middle)
    return (low + high) / 2


def sign_of(value):
    return (value > 0) - (value < 0)


def near_root(value):
    """The root of a fraction that is not below 0."""
    return Fraction(isqrt(int(value * 4 ** BITS)), 2 ** BITS)


def sign(value):
    return 0 if abs(value) < TINY else 1 if value > 0 else -1


def product(factors):
    found = ((1,),)
    for factor in factors:
        found = naive.poly_product(found, factor)
    return found


def values(factor, x):
    found = [naive.value(row, x) for row in factor]
    while found and sign(found[-1]) == 0:
        found.pop()
    return found


def factor_roots(factor, x):
    """The real roots; None for a factor that is nought there."""
    found = values(factor, x)
    if len(found) < 2:
        return [] if found else None
    if len(found) == 2:
        return [-found[0] / found[1]]
    c, b, a = found
    inner = b * b - 4 * a * c
    if sign(inner) <= 0:
        return [-b / (2 * a)] if sign(inner) == 0 else []
    return [(-b - near_root(inner)) / (2 * a), (-b + near_root(inner)) / (2 * a)]


def unlike(roots):
    found = []
    for root in sorted(roots):
        if not found or sign(root - found[-1]):
            found.append(root)
    return found


def poly_roots(factors, x):
    """The unlike roots of the product of some factors; None if it is nought at x."""
    each = [factor_roots(factor, x) for factor in factors]
    return None if None in each else unlike([root for roots in each for root in roots])


def poly_sign(factors, x, y):
    found = 1
    for factor in factors:
        found *= sign(naive.poly_value(factor, x, y))
    return found


def levels(sections):
    """A number on each level."""
    if not sections:
        return [Fraction(0)]
    found = [sections[0] - 1]
    for k, section in enumerate(sections):
        found += [section, (section + sections[k + 1]) / 2 if k + 1 < len(sections) else section + 1]
    return found


def stack(lot, number):
    """The stack of POLYs told by tuples of factors."""
    x = nearest(number)
    roots = [poly_roots(factors, x) for factors in lot]
    sections = unlike([root for each in roots if each is not None for root in each])
    told = []
    for section in sections:
        told.append(next(
            (k, j) for k, each in enumerate(roots) if each is not None
            for j, root in enumerate(each) if sign(root - section) == 0
        ))
    return tuple(told), tuple(tuple(poly_sign(factors, x, y) for factors in lot) for y in levels(sections))
