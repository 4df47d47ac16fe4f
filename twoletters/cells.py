"""The cells of a lot."""

from twoletters.columns import Column, column_point, index_of_column
from twoletters.errors import InvalidCell, InvalidPolys
from twoletters.lots import Lot
from twoletters.placework import checked_place, column_at
from twoletters.polys import check_polys, is_poly
from twoletters.wholes import is_whole


def index_of_level(column, many, level):
    """The level in the stack of the first POLYs of a column, some told by how many, of a level of the column."""
    signs = column.signs()
    found = 0
    for k, section in enumerate(column.told_sections(signs)[:(level + 1) // 2]):
        if section[0] < many:
            found += 1 if level == 2 * k + 1 else 2
    return found


def located(polys, turns, place):
    """The cell of an opened PLACE."""
    column, level = column_at(polys, [], place)
    return (index_of_column(turns, place[0]), index_of_level(column, len(polys), level))


def checked_cell(lot, cell):
    """The column over a point of a cell of the lot."""
    if not isinstance(cell, tuple) or len(cell) != 2 or not all([is_whole(k) and k >= 0 for k in cell]):
        raise InvalidCell(cell)
    turns = lot.find_turns()
    if cell[0] > 2 * len(turns):
        raise InvalidCell(cell)
    column = Column(lot, column_point(turns, cell[0]))
    if cell[1] > 2 * len(column.sections):
        raise InvalidCell(cell)
    return column


def y_on(polys, column, level):
    """A fraction on an even level, or a POLY and the index of its root."""
    if level % 2 == 0:
        return column.fraction_on(level)
    k, index = column.told_sections(column.signs())[level // 2]
    return (polys[k], index)


def cells_of(polys):
    """The turns, and for each column a number in it and the stack there."""
    check_polys(polys)
    lot = Lot(polys, [])
    turns = lot.find_turns()
    stacks = []
    for k in range(2 * len(turns) + 1):
        column = Column(lot, column_point(turns, k))
        signs = column.signs()
        stacks.append((column.point.number, column.told_sections(signs), signs))
    return (tuple([turn.number for turn in turns]), tuple(stacks))


def how_many(polys):
    """How many cells there are."""
    check_polys(polys)
    lot = Lot(polys, [])
    turns = lot.find_turns()
    columns = [Column(lot, column_point(turns, k)) for k in range(2 * len(turns) + 1)]
    return sum([2 * len(column.sections) + 1 for column in columns])


def cell_of(polys, place):
    """The cell in which a PLACE is."""
    check_polys(polys)
    found = checked_place(place)
    return located(polys, Lot(polys, []).find_turns(), found)


def signs_on(polys, cell):
    """The signs of all POLYs on a cell."""
    check_polys(polys)
    return checked_cell(Lot(polys, []), cell).signs()[cell[1]]


def place_in(polys, cell):
    """Any PLACE in a cell."""
    check_polys(polys)
    column = checked_cell(Lot(polys, []), cell)
    return (column.point.number, y_on(polys, column, cell[1]))


def check_others(polys, others):
    if not isinstance(others, tuple):
        raise InvalidPolys(None)
    for index, poly in enumerate(others):
        if not is_poly(poly) or poly not in polys:
            raise InvalidPolys(index)


def is_within(polys, cell, others):
    """The one cell of a lot of some of the POLYs in which a cell lies."""
    place = place_in(polys, cell)
    check_others(polys, others)
    return located(others, Lot(others, []).find_turns(), checked_place(place))
