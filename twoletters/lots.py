"""Lots taken to pieces: each POLY is a row times powers of pieces.

Pieces are bare POLYs without squares, no two of which have a common divisor. So over
most numbers their roots are single ones, and all unlike.
"""

from twoletters.chains import as_constants
from twoletters.curves import Curve, FixedCurve, meeting
from twoletters.lifting import fraction_roots, without_roots
from twoletters.overwork import common_over, cut_at, divisor_chain, divisor_of, rests_at, slope_chain, sturm_at
from twoletters.pieces_of_lots import has_x, lot_pieces, turn_points
from twoletters.polywork import poly_at_x, poly_exchanged, poly_quotient
from twoletters.rowgcd import row_common

# For POLYs of so many rows at most all that can be is found once for all numbers, for others at each one.
FEW = 6


def row_of_end(end):
    """A row that has an end as a root."""
    return (-end.exact[0], end.exact[1]) if end.exact else end.half


def finer(pieces):
    """The pieces, those of y alone taken apart at roots that are fractions."""
    found = []
    for piece in pieces:
        if has_x(piece):
            found.append(piece)
            continue
        row = poly_exchanged(piece)[0]
        exact = fraction_roots(row)
        rest = without_roots(row, exact)
        found = found + [as_constants((-n, m)) for n, m in exact]
        if len(rest) > 1:
            found.append(as_constants(rest))
    return found


def made_of(poly, pieces):
    """The row, and pairs of the index of a piece and its power, the product of which is the POLY."""
    powers = []
    for k, piece in enumerate(pieces):
        power = 0
        rest = poly_quotient(poly, piece) if len(poly) > 1 else None
        while rest is not None:
            poly = rest
            power += 1
            rest = poly_quotient(poly, piece)
        if power:
            powers.append((k, power))
    return (poly[0] if poly else (), tuple(powers))


def curve_of(poly, chain, point):
    """The curve of a POLY that has its degree at a point, 1 at least; its slope chain if that is known."""
    if chain is None:
        poly = poly if point.exact else rests_at(poly, point)
        chain = slope_chain(poly)
    return Curve(sturm_at(poly, chain, point), point)


def constants_at(poly, point):
    """A POLY at a point that is a fraction, as a POLY of y."""
    return as_constants(poly_at_x(poly, point.exact))


class Piece:
    """A piece of a lot, and what is known of it for all numbers."""

    def __init__(self, poly):
        self.poly = poly
        self.chains = {}
        self.fixed = None if has_x(poly) else FixedCurve(poly_exchanged(poly)[0])
        self.fixed_spots = self.fixed.spots() if self.fixed else []

    def chain_of(self, cut):
        """The slope chain of what is left of the POLY where its head is 0."""
        if len(cut) not in self.chains:
            self.chains[len(cut)] = slope_chain(cut)
        return self.chains[len(cut)]

    def roots_over(self, point):
        """The sign below all roots at a point, and all roots there."""
        if self.fixed:
            return self.fixed.lowest_sign(), self.fixed_spots
        if point.exact:
            cut = constants_at(self.poly, point)
        else:
            cut = cut_at(self.poly, point)
        if len(cut) == 1:
            return point.sign(cut[0]), []
        if point.exact or len(cut) > FEW:
            curve = curve_of(cut, None, point)
        else:
            curve = curve_of(cut, self.chain_of(cut), point)
        return curve.lowest_sign(), curve.spots()


class Lot:
    """Some POLYs, and some ends of forms of y: points, each one a line of its own."""

    def __init__(self, polys, ends):
        polys = list(polys)
        lines = [as_constants(row_of_end(end)) for end in ends]
        pieces = finer(lot_pieces(polys + lines))
        self.polys = polys
        self.parts = [made_of(poly, pieces) for poly in polys]
        self.pieces = [Piece(poly) for poly in pieces]
        self.lines = [self.line_of(end) for end in ends]
        self.chains = {}

    def line_of(self, end):
        """The piece of which an end is a root, and the index of the root."""
        row = row_of_end(end)
        for k, piece in enumerate(self.pieces):
            if piece.fixed and (piece.fixed.row == row or (not end.exact and end.sign(piece.fixed.row) == 0)):
                return k, meeting(end, piece.fixed_spots)
        return None

    def find_turns(self):
        """The turns as points, ascending."""
        return turn_points([row for row, powers in self.parts if row], [piece.poly for piece in self.pieces])

    def common_at(self, i, j, point):
        """A POLY the roots of which at a point are those of two pieces."""
        one, other = self.pieces[i].poly, self.pieces[j].poly
        if point.exact:
            return as_constants(row_common(poly_at_x(one, point.exact), poly_at_x(other, point.exact)))
        if len(one) < len(other):
            one, other = other, one
        if len(other) > FEW or point.sign(one[-1]) == 0:
            return common_over(one, other, point)
        if (i, j) not in self.chains:
            self.chains[i, j] = divisor_chain(one, other)
        return divisor_of(self.chains[i, j], point)
