"""Pieces of regions, ways within them, holes, and which piece surrounds which."""

from twoletters.cells import located, y_on
from twoletters.charts import checked_chart
from twoletters.errors import InvalidIndex
from twoletters.placework import checked_place
from twoletters.regionwork import are_bounded, as_keys, holes_in, pieces_among, way_among
from twoletters.wholes import is_whole


def pieces_in(chart):
    """The pieces of the region of a chart."""
    return pieces_among(chart, chart.cells_in())


def check_index(pieces, index):
    if not is_whole(index) or index < 0 or index >= len(pieces):
        raise InvalidIndex(index)


def checked_piece(saying, index):
    """The chart of a saying, and the piece with an index."""
    chart = checked_chart(saying)
    pieces = pieces_in(chart)
    check_index(pieces, index)
    return chart, pieces[index]


def cell_at(chart, place):
    """The cell in which an opened PLACE is."""
    return located(chart.polys, chart.turns, place)


def index_of_piece(pieces, cell):
    """The index of the piece that has a cell; None."""
    for index, piece in enumerate(pieces):
        if cell in piece:
            return index
    return None


def place_on(chart, cell):
    """A PLACE in a cell."""
    column = chart.strip_over(cell[0])
    return (column.point.number, y_on(chart.polys, column, cell[1]))


def surrounding(chart, pieces):
    """For each piece the cells of all its holes, as keys."""
    found = []
    for piece in pieces:
        cells = {}
        for hole in holes_in(chart, piece):
            cells.update(as_keys(hole))
        found.append(cells)
    return found


def innermost(indexes, around):
    """The one of some pieces that all others surround, all that surround each piece being told; None for no pieces."""
    found = None
    for index in indexes:
        if found is None or len(around[index]) > len(around[found]):
            found = index
    return found


def pieces_of(saying):
    """The pieces, each one the ascending tuple of its cells, by their first cells."""
    return pieces_in(checked_chart(saying))


def piece_at(saying, place):
    """The index of the piece in which a PLACE is; None for one outside."""
    chart = checked_chart(saying)
    return index_of_piece(pieces_in(chart), cell_at(chart, checked_place(place)))


def piece_place(saying, index):
    """Any PLACE in a piece."""
    chart, piece = checked_piece(saying, index)
    return place_on(chart, piece[0])


def is_bounded_piece(saying, index):
    chart, piece = checked_piece(saying, index)
    return are_bounded(chart, piece)


def are_joined(saying, place, other):
    """Whether two PLACEs are in one piece."""
    return way_between(saying, place, other) is not None


def way_between(saying, place, other):
    """Any way by cells of the region from one PLACE to another one; None."""
    chart = checked_chart(saying)
    one = checked_place(place)
    two = checked_place(other)
    first, last = cell_at(chart, one), cell_at(chart, two)
    if not chart.is_in(first) or not chart.is_in(last):
        return None
    return way_among(chart, chart.cells_in(), first, last)


def holes_of(saying):
    """The bounded pieces of the opposite."""
    chart = checked_chart(saying)
    return holes_in(chart, chart.cells_in())


def holes_of_piece(saying, index):
    """The holes of the region that is made of a piece alone."""
    chart, piece = checked_piece(saying, index)
    return holes_in(chart, piece)


def does_surround(saying, index, other):
    """Whether the first piece surrounds the other one."""
    chart = checked_chart(saying)
    pieces = pieces_in(chart)
    check_index(pieces, index)
    check_index(pieces, other)
    return pieces[other][0] in surrounding(chart, pieces)[index]


def nesting_of(saying):
    """For each piece the index of the innermost one that surrounds it; None for a piece that none surrounds."""
    chart = checked_chart(saying)
    pieces = pieces_in(chart)
    around = []
    holes = surrounding(chart, pieces)
    for piece in pieces:
        around.append([index for index, cells in enumerate(holes) if piece[0] in cells])
    return tuple([innermost(indexes, around) for indexes in around])
