"""Charts of sayings: cells, truths, goals, rims."""

from twoletters.chartwork import Chart, lot_filled
from twoletters.errors import InvalidCell
from twoletters.kernels import kernel_of
from twoletters.polys import check_polys
from twoletters.sayings import check_saying
from twoletters.wholes import is_whole


def is_pair(value):
    """Whether a value is a pair of whole numbers from 0 on."""
    return isinstance(value, tuple) and len(value) == 2 and all([is_whole(number) and number >= 0 for number in value])


def checked_chart(saying):
    """The chart of what has to be a saying."""
    check_saying(saying)
    return Chart(kernel_of(saying))


def check_cell(chart, cell):
    if not is_pair(cell) or not chart.has_cell(cell):
        raise InvalidCell(cell)


def full_lot(polys):
    """The POLYs, and their core behind them if it is needed."""
    check_polys(polys)
    return lot_filled(polys)


def chart_of(saying):
    """The full lot, the ends, the stacks, and the truths on all cells."""
    chart = checked_chart(saying)
    stacks = []
    for k in chart.all_columns():
        column = chart.strip_over(k)
        signs = chart.signs_on(k)
        stacks.append((column.point.number, column.told_sections(signs), signs))
    ends = tuple([turn.number for turn in chart.turns])
    return (chart.polys, ends, tuple(stacks), tuple([chart.truths_on(k) for k in chart.all_columns()]))


def goals_of(saying):
    """For each turn the goals of the sections below it, and of those above it."""
    chart = checked_chart(saying)
    return tuple([chart.goals_to(k) for k in range(len(chart.turns))])


def dimension_of(cell):
    if not is_pair(cell):
        raise InvalidCell(cell)
    return 2 - cell[0] % 2 - cell[1] % 2


def does_rim(saying, cell, other):
    """Whether the first cell rims the other one."""
    chart = checked_chart(saying)
    check_cell(chart, cell)
    check_cell(chart, other)
    return cell in chart.rims_of(other)


def is_bounded_cell(saying, cell):
    chart = checked_chart(saying)
    check_cell(chart, cell)
    return chart.is_bounded(cell)
