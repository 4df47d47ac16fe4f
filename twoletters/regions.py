"""Regions of sayings: closure, inner, rim, and what they are like."""

from twoletters.charts import checked_chart, dimension_of
from twoletters.regionwork import are_bounded, as_keys, closure_in, inner_in


def cells_in(saying):
    """The cells of the region."""
    return tuple(checked_chart(saying).cells_in())


def closure_of(saying):
    """The cells of the closure."""
    chart = checked_chart(saying)
    return closure_in(chart, chart.cells_in())


def inner_of(saying):
    """The cells of the inner."""
    chart = checked_chart(saying)
    return inner_in(chart, chart.cells_in())


def rim_of(saying):
    """The cells of the closure that are not in the inner."""
    chart = checked_chart(saying)
    cells = chart.cells_in()
    inner = as_keys(inner_in(chart, cells))
    return tuple([cell for cell in closure_in(chart, cells) if cell not in inner])


def is_open(saying):
    """Whether the region is its inner."""
    chart = checked_chart(saying)
    cells = chart.cells_in()
    return len(inner_in(chart, cells)) == len(cells)


def is_closed(saying):
    """Whether the region is its closure."""
    chart = checked_chart(saying)
    cells = chart.cells_in()
    return len(closure_in(chart, cells)) == len(cells)


def is_bounded(saying):
    """Whether all cells of the region are bounded."""
    chart = checked_chart(saying)
    return are_bounded(chart, chart.cells_in())


def dimension(saying):
    """The greatest dimension of a cell of the region; None."""
    return max([dimension_of(cell) for cell in checked_chart(saying).cells_in()], default=None)


def euler_number(saying):
    return sum([-1 if dimension_of(cell) == 1 else 1 for cell in checked_chart(saying).cells_in()])
