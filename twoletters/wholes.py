"""Whole numbers and fractions."""

from math import gcd


def is_whole(value):
    return isinstance(value, int) and not isinstance(value, bool)


def is_fraction(value):
    if not isinstance(value, tuple) or len(value) != 2:
        return False
    n, m = value
    return is_whole(n) and is_whole(m) and m > 0 and gcd(n, m) == 1


def fraction_of(n, m):
    """The fraction n / m, m being above 0."""
    shared = gcd(n, m)
    return (n // shared, m // shared)


def sign_of(n):
    if n == 0:
        return 0
    return 1 if n > 0 else -1


def power(base, many):
    """The whole number base, taken many times."""
    found = 1
    while many:
        if many & 1:
            found *= base
        many >>= 1
        if many:
            base *= base
    return found


def shared_by(numbers):
    """The greatest common divisor of some whole numbers."""
    found = 0
    for n in numbers:
        found = gcd(found, n)
        if found == 1:
            return 1
    return found


def order_of_fractions(one, other):
    """- 1, 0 or 1 as the first fraction is below, at or above the other one."""
    return sign_of(one[0] * other[1] - other[0] * one[1])


def fraction_sum(one, other):
    return fraction_of(one[0] * other[1] + other[0] * one[1], one[1] * other[1])


def fraction_product(one, other):
    return fraction_of(one[0] * other[0], one[1] * other[1])


def whole_between(low, high):
    """The whole number nearest to 0 strictly between two fractions, of which there is one."""
    first = low[0] // low[1] + 1
    last = -(-high[0] // high[1]) - 1
    if first > 0:
        return first
    return last if last < 0 else 0


def simplest_between(low, high):
    """A fraction with the least m, strictly between two fractions, the first one being the lesser one.

    As long as no whole number lies between them both have one whole part: what is
    left of them is turned round. HIGH None stands for "above all".
    """
    steps = []
    while high is not None and (low[0] // low[1] + 1) * high[1] >= high[0]:
        floor = low[0] // low[1]
        steps.append(floor)
        low_rest = low[0] - floor * low[1]
        high_rest = high[0] - floor * high[1]
        turned = (low[1], low_rest) if low_rest else None
        low, high = (high[1], high_rest), turned
    n = low[0] // low[1] + 1
    if not steps:
        n = whole_between(low, high)
    m = 1
    for floor in reversed(steps):
        n, m = floor * n + m, n
    return fraction_of(n, m)
