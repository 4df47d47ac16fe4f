"""Subresultants.

Of two rows P and Q, of degrees n and m, m below n, subresultant k (from 0 to m) is the
polynomial made of the determinants of the rows y^(m - k - 1) P, .., P, Q, y Q, ..,
y^(n - k - 1) Q, in this order; subresultant n is P, subresultant n - 1 is Q, all others
are nought. They are found by rests: if the one with the index j - 1 has the degree k,
the next one that may not be nought is that of the index k - 1, a multiple of a rest
(the structure theorem). As determinants they hold for each x at which P has degree n.

For POLYs they are reckoned at an x that is a power of 2, so great that the coefficients
can be read off.
"""

from twoletters.rowwork import packed, trimmed, unpacked
from twoletters.wholes import power


def full_rest(row, by):
    """The rest of the row by another one, times the head of that one as often as the difference of lengths, and 1."""
    rest = list(row)
    head = by[-1]
    size = len(by)
    for at in reversed(range(len(row) - size + 1)):
        top = rest.pop()
        rest = [head * number for number in rest]
        if top:
            for k in range(size - 1):
                rest[at + k] -= top * by[k]
    return trimmed(rest)


def own_head(head, scale, steps):
    """The number with y^k of subresultant k, whose multiple has the index k + steps, and this head there."""
    found = head
    for k in range(steps):
        found = head * found // scale
        if k % 2 == 0:
            found = -found
    return found


def subresultants(one, other):
    """The tuple of all subresultants of two rows of whole numbers, from index 0 on."""
    at = len(one) - 1
    found = [()] * at + [one]
    found[at - 1] = other
    upper, lower = one, other
    scale = lead = 1
    while lower:
        low = len(lower) - 1
        head = lower[-1]
        own = own_head(head, scale, at - 1 - low)
        if low < at - 1:
            found[low] = tuple([own * number // head for number in lower])
        if low == 0:
            break
        over = power(head, at - low) * scale * lead
        rest = tuple([-own * number // over for number in full_rest(upper, lower)])
        found[low - 1] = rest
        upper, lower, at = lower, rest, low
        scale, lead = own, head
    return tuple(found)


def whole_resultant(one, other):
    """The resultant of two rows of whole numbers other than nought."""
    n, m = len(one) - 1, len(other) - 1
    if n < m:
        found = whole_resultant(other, one)
        return -found if n * m % 2 else found
    if n == 0:
        return 1
    if n == m:
        # The other one is made shorter: that takes the head of the first one, as often as told by the degrees.
        rest = trimmed([one[-1] * two - other[-1] * first for first, two in zip(one, other)])
        return whole_resultant(one, rest) // power(one[-1], len(rest) - 1) if rest else 0
    last = subresultants(one, other)[0]
    if not last:
        return 0
    return -last[0] if n * (n - 1) // 2 % 2 else last[0]


def sum_of_sizes(poly):
    """The sum of all |coefficient| of a POLY."""
    return sum([sum([abs(number) for number in row]) for row in poly])


def bits_for(one, other):
    """How many digits are enough for each coefficient of a determinant of rows of two POLYs."""
    size = power(sum_of_sizes(one), len(other)) * power(sum_of_sizes(other), len(one))
    return size.bit_length() + 2


def as_constants(row):
    """The row as a POLY of y."""
    return tuple([(number,) if number else () for number in row])


def packed_poly(poly, bits):
    return tuple([packed(row, bits) for row in poly])


def unpacked_poly(row, bits):
    return tuple([unpacked(number, bits) for number in row])


def poly_subresultants(one, other):
    """Those of two POLYs, the degree of the first one being the greater one: a tuple of POLYs."""
    bits = bits_for(one, other)
    found = subresultants(packed_poly(one, bits), packed_poly(other, bits))
    return tuple([unpacked_poly(each, bits) for each in found])


def poly_resultant(one, other):
    """The resultant of two POLYs other than ()."""
    bits = bits_for(one, other)
    return unpacked(whole_resultant(packed_poly(one, bits), packed_poly(other, bits)), bits)
