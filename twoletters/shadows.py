"""Lines and shadows: cuts of regions, y of PLACEs, shadows of pieces."""

from twoletters.chains import as_constants, poly_resultant
from twoletters.chartwork import Chart
from twoletters.charts import checked_chart
from twoletters.columns import Column, index_of_column
from twoletters.errors import InvalidCount
from twoletters.formwork import form_told
from twoletters.kernels import kernel_of
from twoletters.lots import Lot
from twoletters.numbers import MOST, checked_number
from twoletters.pieces import cell_at, check_index, index_of_piece, pieces_in, place_on
from twoletters.placework import checked_place
from twoletters.points import points_of
from twoletters.polywork import poly_at_x, poly_exchanged
from twoletters.sayings import check_letter, check_saying
from twoletters.saywork import says_exchanged
from twoletters.sums import does_meet
from twoletters.wholes import is_fraction, is_whole


def spot_of(opened_one):
    """The piece of which the y of an opened PLACE over a point that is no fraction is a root, and the root."""
    point, poly, index = opened_one
    column = Column(Lot((poly,), []), point)
    k, spot = column.sections[column.level_of(0, index) // 2][0]
    return column.lot.pieces[k], spot


def meeting_number(row, spot):
    """The NUMBER of that root of the row which is the root that is told."""
    points = points_of(row)
    while len(points) > 1:
        spot.narrow()
        for point in points:
            if not point.exact:
                point.narrow(2)
        points = [point for point in points if does_meet(point, (spot.low, spot.high, spot.bits))]
    return points[0].number


def y_of(place):
    """Any NUMBER that is the y of a PLACE."""
    opened_one = checked_place(place)
    point, poly, index = opened_one
    if is_fraction(place[1]):
        return place[1]
    if point.exact:
        return points_of(poly_at_x(poly, point.exact))[index].number
    piece, spot = spot_of(opened_one)
    if piece.fixed:
        return meeting_number(piece.fixed.row, spot)
    return meeting_number(poly_resultant(poly_exchanged(piece.poly), as_constants(point.half)), spot)


def exchanged_place(place):
    """Any PLACE that tells x for y, y for x."""
    y = y_of(place)
    x = place[0]
    return (y, x) if is_fraction(x) else (y, (as_constants(x[0]), x[1]))


def easiest_cell(piece):
    """A cell of a piece in which there is a PLACE that is told shortly: of the greatest dimension, over no turn."""
    return min([(cell[0] % 2 + cell[1] % 2, cell[0] % 2, cell) for cell in piece])[2]


def shadow_on_x(chart, piece):
    """The form of x that is so of the numbers of the columns in which a piece has cells."""
    columns = {cell[0]: True for cell in piece}
    return form_told(chart.turns, [k in columns for k in chart.all_columns()])


def exchanged_piece(kernel, place):
    """The chart of a kernel exchanged, and the piece of it in which a PLACE, exchanged, is."""
    chart = Chart(says_exchanged(kernel))
    pieces = pieces_in(chart)
    cell = cell_at(chart, checked_place(exchanged_place(place)))
    return chart, pieces[index_of_piece(pieces, cell)]


def shadow_of_piece(saying, index, letter):
    """The form of a letter that is so of just the numbers of the shadow of a piece."""
    check_saying(saying)
    kernel = kernel_of(saying)
    chart = Chart(kernel)
    pieces = pieces_in(chart)
    check_index(pieces, index)
    check_letter(letter)
    if letter == "x":
        return shadow_on_x(chart, pieces[index])
    other, piece = exchanged_piece(kernel, place_on(chart, easiest_cell(pieces[index])))
    return shadow_on_x(other, piece)


def many_stretches(truths):
    """How many longest runs of True there are."""
    return sum([1 for k, truth in enumerate(truths) if truth and not (k and truths[k - 1])])


def stretches_at(saying, number):
    """How many stretches the cut at a number has."""
    chart = checked_chart(saying)
    point = checked_number(number)
    return many_stretches(chart.truths_on(index_of_column(chart.turns, point)))


def lines_with(saying, count):
    """The form of x that is so of just the numbers at which the cut has so many stretches."""
    chart = checked_chart(saying)
    if not is_whole(count) or count < 0 or count > MOST:
        raise InvalidCount(count)
    return form_told(chart.turns, [many_stretches(chart.truths_on(k)) == count for k in chart.all_columns()])
