"""POLYs: polynomials in two letters, with whole numbers."""

from twoletters.chains import poly_resultant
from twoletters.errors import InvalidFraction, InvalidPoly, InvalidPolys
from twoletters.pieces_of_lots import lot_core, lot_pieces, turn_points
from twoletters.polywork import poly_at_x, poly_bare, poly_common, poly_content, poly_derived, poly_discriminant
from twoletters.polywork import poly_exchanged, poly_plus, poly_times, poly_value
from twoletters.rows import is_row
from twoletters.wholes import is_fraction

MOST_POLYS = 8


def is_poly(value):
    """Whether a value, whatever it is, is a POLY."""
    if not isinstance(value, tuple) or not all([is_row(row) for row in value]):
        return False
    return not value or value[-1] != ()


def check_poly(poly):
    if not is_poly(poly):
        raise InvalidPoly(poly)


def check_some_poly(poly):
    """() is refused, too."""
    if not is_poly(poly) or not poly:
        raise InvalidPoly(poly)


def check_two_polys(poly, other):
    check_poly(poly)
    check_poly(other)


def check_polys(polys):
    if not isinstance(polys, tuple) or len(polys) > MOST_POLYS:
        raise InvalidPolys(None)
    for index, poly in enumerate(polys):
        if not is_poly(poly):
            raise InvalidPolys(index)


def check_fraction(fraction):
    if not is_fraction(fraction):
        raise InvalidFraction(fraction)


def poly_sum(poly, other):
    check_two_polys(poly, other)
    return poly_plus(poly, other)


def poly_product(poly, other):
    check_two_polys(poly, other)
    return poly_times(poly, other)


def exchanged(poly):
    """The POLY that has at (x, y) the value of this one at (y, x)."""
    check_poly(poly)
    return poly_exchanged(poly)


def derived(poly):
    """The derivative in y."""
    check_poly(poly)
    return poly_derived(poly)


def value_at(poly, x, y):
    """The value at a place of fractions, a fraction."""
    check_poly(poly)
    check_fraction(x)
    check_fraction(y)
    return poly_value(poly, x, y)


def at_x(poly, x):
    """The row, of y, of the values at x, times the least whole number above 0 that makes them whole."""
    check_poly(poly)
    check_fraction(x)
    return poly_at_x(poly, x)


def at_y(poly, y):
    """The row, of x, of the values at y, times the least whole number above 0 that makes them whole."""
    check_poly(poly)
    check_fraction(y)
    return poly_at_x(poly_exchanged(poly), y)


def content(poly):
    """The common row of all rows of a POLY other than ()."""
    check_some_poly(poly)
    return poly_content(poly)


def bare(poly):
    """The bare POLY of a POLY other than ()."""
    check_some_poly(poly)
    return poly_bare(poly)


def common(poly, other):
    """The greatest common divisor."""
    check_two_polys(poly, other)
    return poly_common(poly, other)


def resultant(poly, other):
    """The resultant, by y, of two POLYs other than ()."""
    check_some_poly(poly)
    check_some_poly(other)
    return poly_resultant(poly, other)


def discriminant(poly):
    """The discriminant of a POLY of degree 1 at least."""
    if not is_poly(poly) or len(poly) < 2:
        raise InvalidPoly(poly)
    return poly_discriminant(poly)


def core_of(polys):
    check_polys(polys)
    return lot_core(polys)


def turns_of(polys):
    """The turns of a lot, ascending NUMBERS."""
    check_polys(polys)
    contents = [poly_content(poly) for poly in polys if poly]
    return tuple([point.number for point in turn_points(contents, lot_pieces(polys))])
