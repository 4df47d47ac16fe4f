"""Stacks: what a lot is over a NUMBER."""

from twoletters.columns import Column
from twoletters.errors import InvalidIndex
from twoletters.lots import Lot
from twoletters.numbers import checked_number
from twoletters.polys import check_polys
from twoletters.wholes import is_whole


def stack_of(polys, number):
    """The sections, ascending, and the signs on all levels."""
    check_polys(polys)
    column = Column(Lot(polys, []), checked_number(number))
    signs = column.signs()
    return (column.told_sections(signs), signs)


def fraction_on(polys, number, level):
    """Any fraction on an even level."""
    check_polys(polys)
    point = checked_number(number)
    if not is_whole(level) or level < 0 or level % 2:
        raise InvalidIndex(level)
    column = Column(Lot(polys, []), point)
    if level > 2 * len(column.sections):
        raise InvalidIndex(level)
    return column.fraction_on(level)
