"""Greatest common divisors of rows, and rows without squares.

Of two rows with whole numbers without a common divisor let v be the greatest common
divisor of their values at a number b that is above twice the greatest |coefficient|
of one of them, and 2 more; let g be the prime part of the row that has the value v at b
and coefficients up to b / 2. If g divides both, it is their greatest common divisor:
otherwise that would be g times h, h(b) would divide what was taken out of v, up to b / 2,
but each root of h is nearer to 0 than b / 2. And for great b it does: v is the divisor's
value times a number that divides a resultant, which does not hang on b.
"""

from math import gcd

from twoletters.rowwork import packed, row_derivative, row_prime, row_quotient, unpacked, width_of
from twoletters.wholes import shared_by


def row_common(row, other):
    """The common row."""
    if not row or not other:
        return row_prime(row or other)
    if len(row) == 1 or len(other) == 1:
        return (1,)
    row, other = row_prime(row), row_prime(other)
    bits = min(width_of(row), width_of(other)) + 2
    while True:
        found = row_prime(unpacked(gcd(packed(row, bits), packed(other, bits)), bits))
        if len(found) == 1:
            return (1,)
        if row_quotient(row, found) is not None and row_quotient(other, found) is not None:
            return found
        bits *= 2


def whole_common(row, other):
    """The greatest common divisor of two rows, not both nought, whole numbers that divide both let in."""
    shared = gcd(shared_by(row), shared_by(other))
    return tuple([shared * number for number in row_common(row, other)])


def row_plain(row):
    """The plain row of a row other than nought."""
    row = row_prime(row)
    if len(row) < 3:
        return row if len(row) == 2 else (1,)
    shared = row_common(row, row_derivative(row))
    return row if len(shared) == 1 else row_quotient(row, shared)


def parted(rows):
    """Plain rows of degree 1 at least, without common roots, that have all roots of the rows, and no other ones.

    Each of the rows has either all roots of one of them or none.
    """
    found = []
    for row in rows:
        if len(row) < 2:
            continue
        rest = row_plain(row)
        halves = []
        for piece in found:
            shared = (1,) if len(rest) < 2 else row_common(piece, rest)
            if len(shared) == 1:
                halves.append(piece)
                continue
            rest = row_quotient(rest, shared)
            halves.append(shared)
            if len(shared) < len(piece):
                halves.append(row_quotient(piece, shared))
        if len(rest) > 1:
            halves.append(rest)
        found = halves
    return found
