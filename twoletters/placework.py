"""PLACEs opened: the point of the x, and for the y a POLY and the index of its root there."""

from twoletters.columns import Column
from twoletters.errors import InvalidPlace
from twoletters.lots import Lot
from twoletters.overwork import count_over
from twoletters.points import opened
from twoletters.polys import is_poly
from twoletters.rowwork import trimmed
from twoletters.wholes import is_fraction, is_whole


def line_at(fraction):
    """The POLY that is 0 where y is a fraction."""
    return (trimmed((-fraction[0],)), (fraction[1],))


def opened_place(value):
    """The point, the POLY and the index; None for any other value than a PLACE."""
    if not isinstance(value, tuple) or len(value) != 2:
        return None
    number, y = value
    point = opened(number)
    if point is None:
        return None
    if is_fraction(y):
        return (point, line_at(y), 0)
    if not isinstance(y, tuple) or len(y) != 2:
        return None
    poly, index = y
    if not is_whole(index) or index < 0 or not is_poly(poly):
        return None
    many = count_over(poly, point, None, None)
    return None if many is None or index >= many else (point, poly, index)


def checked_place(place):
    found = opened_place(place)
    if found is None:
        raise InvalidPlace(place)
    return found


def column_at(polys, ends, opened_one):
    """The column of a lot, the POLY of an opened PLACE put behind it, and the level of the PLACE there."""
    point, poly, index = opened_one
    column = Column(Lot(tuple(polys) + (poly,), ends), point)
    return column, column.level_of(len(polys), index)
