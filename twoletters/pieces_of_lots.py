"""The core and the turns of a lot, by pieces: bare POLYs without squares and without common divisors."""

from itertools import combinations

from twoletters.chains import poly_resultant
from twoletters.points import in_order, points_of_plain
from twoletters.polywork import ONE, poly_bare, poly_common, poly_content, poly_derived, poly_discriminant
from twoletters.polywork import poly_quotient, poly_times
from twoletters.rowgcd import parted


def put_to(pieces, poly):
    """The pieces, with those of a bare POLY without squares."""
    found = []
    rest = poly
    for piece in pieces:
        shared = ONE if len(rest) == 1 else poly_common(piece, rest)
        if len(shared) == 1:
            found.append(piece)
            continue
        rest = poly_quotient(rest, shared)
        found.append(shared)
        if len(shared) < len(piece):
            found.append(poly_quotient(piece, shared))
    return found if len(rest) == 1 else found + [rest]


def lot_pieces(polys):
    """POLYs of degree 1 at least the product of which is the core, if it has a degree from 1 on."""
    found = []
    for poly in polys:
        rest = poly_bare(poly) if len(poly) > 1 else ONE
        while len(rest) > 1:
            # What stands in it twice or more is put to the pieces once again, so that it is parted from the others.
            twice = poly_common(rest, poly_derived(rest))
            found = put_to(found, poly_quotient(rest, twice))
            rest = twice
    return found


def lot_core(polys):
    found = ONE
    for piece in lot_pieces(polys):
        found = poly_times(found, piece)
    return found


def turn_rows(polys):
    """Rows the roots of which are the turns."""
    pieces = lot_pieces(polys)
    rows = [poly_content(poly) for poly in polys if poly]
    rows = rows + [piece[-1] for piece in pieces]
    rows = rows + [poly_discriminant(piece) for piece in pieces if len(piece) > 2]
    return rows + [poly_resultant(one, other) for one, other in combinations(pieces, 2)]


def turn_points(polys):
    """The turns as points, ascending."""
    found = []
    for row in parted(turn_rows(polys)):
        found = found + points_of_plain(row)
    return in_order(found)
