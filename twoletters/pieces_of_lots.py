"""The core and the turns of a lot, by pieces: bare POLYs without squares and without common divisors."""

from itertools import combinations

from twoletters.chains import poly_resultant
from twoletters.points import in_order, points_of_plain
from twoletters.polywork import ONE, poly_bare, poly_common, poly_derived, poly_discriminant, poly_quotient
from twoletters.polywork import poly_times
from twoletters.rowgcd import parted


def put_to(pieces, poly):
    """The pieces, with those of a bare POLY without squares."""
    found = []
    rest = poly
    for piece in pieces:
        shared = ONE if len(rest) == 1 else poly_common(piece, rest)
        if len(shared) == 1:
            found.append(piece)
            continue
        rest = poly_quotient(rest, shared)
        found.append(shared)
        if len(shared) < len(piece):
            found.append(poly_quotient(piece, shared))
    return found if len(rest) == 1 else found + [rest]


def lot_pieces(polys):
    """POLYs of degree 1 at least the product of which is the core, if it has a degree from 1 on."""
    found = []
    for poly in polys:
        rest = poly_bare(poly) if len(poly) > 1 else ONE
        while len(rest) > 1:
            # What stands in it twice or more is put to the pieces once again, so that it is parted from the others.
            twice = poly_common(rest, poly_derived(rest))
            found = put_to(found, poly_quotient(rest, twice))
            rest = twice
    return found


def lot_core(polys):
    found = ONE
    for piece in lot_pieces(polys):
        found = poly_times(found, piece)
    return found


def has_x(poly):
    return max([len(row) for row in poly], default=0) > 1


def turn_rows(contents, pieces):
    """Rows the roots of which are the turns of a lot, told by its contents and its pieces."""
    rows = contents + [piece[-1] for piece in pieces]
    rows = rows + [poly_discriminant(piece) for piece in pieces if len(piece) > 2 and has_x(piece)]
    pairs = [pair for pair in combinations(pieces, 2) if has_x(pair[0]) or has_x(pair[1])]
    return rows + [poly_resultant(one, other) for one, other in pairs]


def turn_points(contents, pieces):
    """The turns of a lot, told by its contents and its pieces, as points, ascending."""
    found = []
    for row in parted(turn_rows(contents, pieces)):
        found = found + points_of_plain(row)
    return in_order(found)
