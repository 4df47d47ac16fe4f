"""PLACEs: a NUMBER, and a fraction or a root of a POLY over it."""

from twoletters.chains import poly_resultant
from twoletters.columns import Column
from twoletters.errors import UnlikePlaces
from twoletters.lots import Lot
from twoletters.placework import checked_place, column_at, opened_place
from twoletters.points import compare, points_of
from twoletters.polys import check_poly, check_two_polys
from twoletters.polywork import ONE, poly_common
from twoletters.wholes import sign_of


def is_place(value):
    """Whether a value, whatever it is, is a PLACE."""
    return opened_place(value) is not None


def sign_at(poly, place):
    """The sign of a POLY at a PLACE."""
    check_poly(poly)
    column, level = column_at((poly,), [], checked_place(place))
    return column.signs()[level][0]


def levels_over(place, other):
    """The column of both PLACEs, and the levels of both."""
    point, poly, index = checked_place(place)
    beside, second, at = checked_place(other)
    if compare(point, beside) != 0:
        raise UnlikePlaces()
    column = Column(Lot((poly, second), []), point)
    return column, column.level_of(0, index), column.level_of(1, at)


def order_over(place, other):
    """- 1, 0 or 1 as the first one is below, at or above the second one, over one x."""
    column, level, beside = levels_over(place, other)
    return sign_of(level - beside)


def fraction_over(place, other):
    """Any fraction above the lower one and below the other one, over one x."""
    column, level, beside = levels_over(place, other)
    if level == beside:
        raise UnlikePlaces()
    return column.fraction_on(min(level, beside) + 1)


def meets_over(lot, point):
    """The PLACEs over a point at which both POLYs of a lot are 0."""
    column = Column(lot, point)
    signs = column.signs()
    found = []
    for told, on_section in zip(column.told_sections(signs), signs[1::2]):
        if on_section == (0, 0):
            found.append((point.number, (lot.polys[told[0]], told[1])))
    return found


def meets(poly, other):
    """All places at which both are 0, by x, then from below; None if they have a divisor in common."""
    check_two_polys(poly, other)
    if poly_common(poly, other) != ONE:
        return None
    found = []
    if poly and other:
        lot = Lot((poly, other), [])
        for point in points_of(poly_resultant(poly, other)):
            found = found + meets_over(lot, point)
    return tuple(found)
