"""POLYs reckoned with: sums, products, quotients, greatest common divisors. Nothing is checked here."""

from math import gcd

from twoletters.chains import packed_poly, poly_resultant, unpacked_poly
from twoletters.rowgcd import row_common, whole_common
from twoletters.rowwork import row_divided, row_quotient, row_scaled, row_sum, row_times, row_value, scaled_value
from twoletters.rowwork import trimmed, width_of
from twoletters.wholes import fraction_product, fraction_sum, power, shared_by

ONE = ((1,),)


def poly_trimmed(rows):
    """The POLY of the rows: without those at the end that are nought."""
    last = len(rows)
    while last and not rows[last - 1]:
        last -= 1
    return tuple(rows[:last])


def poly_plus(poly, other):
    if len(poly) < len(other):
        poly, other = other, poly
    found = list(poly)
    for k, row in enumerate(other):
        found[k] = row_sum(found[k], row)
    return poly_trimmed(found)


def poly_scaled(poly, row):
    """The POLY times a row."""
    if not row:
        return ()
    return tuple([row_times(each, row) for each in poly])


def poly_less(poly, other):
    return poly_plus(poly, poly_scaled(other, (-1,)))


def poly_times(poly, other):
    if not poly or not other:
        return ()
    found = [()] * (len(poly) + len(other) - 1)
    for k, row in enumerate(other):
        if row:
            for at, factor in enumerate(poly):
                found[at + k] = row_sum(found[at + k], row_times(row, factor))
    return tuple(found)


def poly_exchanged(poly):
    """x for y, y for x."""
    longest = max([len(row) for row in poly], default=0)
    rows = []
    for k in range(longest):
        rows.append(trimmed([row[k] if k < len(row) else 0 for row in poly]))
    return poly_trimmed(rows)


def poly_derived(poly):
    """The derivative in y."""
    return tuple([row_scaled(row, k) for k, row in enumerate(poly)][1:])


def poly_prime(poly):
    """The prime part."""
    if not poly:
        return ()
    shared = shared_by([shared_by(row) for row in poly])
    if poly[-1][-1] < 0:
        shared = -shared
    if shared == 1:
        return poly
    return tuple([row_divided(row, shared) for row in poly])


def poly_value(poly, x, y):
    """The value at a place of fractions, a fraction."""
    found = (0, 1)
    for row in reversed(poly):
        found = fraction_sum(fraction_product(found, y), row_value(row, x))
    return found


def poly_at_x(poly, x):
    """The row, of y, of the values at x, times the least whole number above 0 that makes them whole."""
    n, m = x
    longest = max([len(row) for row in poly], default=0)
    numbers = [scaled_value(row, n, m) * power(m, longest - len(row)) for row in poly]
    shared = gcd(shared_by(numbers), power(m, max(longest - 1, 0)))
    return trimmed([number // shared for number in numbers])


def poly_along(poly, fraction):
    """The row, of x, of the values at some y, times some whole number above 0."""
    n, m = fraction
    found = ()
    factor = 1
    for row in reversed(poly):
        found = row_sum(row_scaled(found, n), row_scaled(row, factor))
        factor *= m
    return found


def poly_content(poly):
    """The content of a POLY other than ()."""
    found = ()
    for row in poly:
        if row and found != (1,):
            found = row_common(found, row)
    return found


def poly_bare(poly):
    """The bare POLY of a POLY other than ()."""
    poly = poly_prime(poly)
    shared = poly_content(poly)
    if shared == (1,):
        return poly
    return poly_prime(tuple([row_quotient(row, shared) for row in poly]))


def poly_quotient(poly, by):
    """The POLY over another one, if that is a POLY; None otherwise."""
    if not poly:
        return ()
    if len(poly) < len(by):
        return None
    rest = list(poly)
    found = [()] * (len(poly) - len(by) + 1)
    for at in reversed(range(len(found))):
        part = row_quotient(rest[at + len(by) - 1], by[-1])
        if part is None:
            return None
        found[at] = part
        if part:
            down = row_scaled(part, -1)
            for k, row in enumerate(by):
                rest[at + k] = row_sum(rest[at + k], row_times(down, row))
    return None if any(rest) else tuple(found)


def poly_common(poly, other):
    """The greatest common divisor, () if both are ().

    It is found at an x that is a power of 2 as that of rows is found (see rowgcd).
    """
    if not poly or not other:
        return poly_prime(poly or other)
    poly, other = poly_prime(poly), poly_prime(other)
    bits = min(poly_width(poly), poly_width(other)) + 2
    while True:
        # The one with the longer numbers may lose its head there, or be 0.
        row = whole_common(trimmed(packed_poly(poly, bits)), trimmed(packed_poly(other, bits)))
        found = poly_prime(unpacked_poly(row, bits))
        if found == ONE:
            return found
        if poly_quotient(poly, found) is not None and poly_quotient(other, found) is not None:
            return found
        bits *= 2


def poly_width(poly):
    return max([width_of(row) for row in poly])


def poly_discriminant(poly):
    """The discriminant of a POLY of degree 1 at least."""
    n = len(poly) - 1
    found = row_quotient(poly_resultant(poly, poly_derived(poly)), poly[-1])
    return row_scaled(found, -1) if n * (n - 1) // 2 % 2 else found
