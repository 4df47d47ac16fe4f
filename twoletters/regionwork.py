"""Sets of cells of a chart: closure, inner, pieces, holes."""


def as_keys(cells):
    """The cells as keys, so that they are found at once."""
    return {cell: True for cell in cells}


def outside_of(chart, cells):
    """All other cells, ascending."""
    inside = as_keys(cells)
    return [cell for cell in chart.all_cells() if cell not in inside]


def rims_of_all(chart, cells):
    """All cells that rim one of some cells, as keys."""
    found = {}
    for cell in cells:
        found.update(as_keys(chart.rims_of(cell)))
    return found


def closure_in(chart, cells):
    """The closure, ascending."""
    found = rims_of_all(chart, cells)
    found.update(as_keys(cells))
    return tuple(sorted(list(found)))


def inner_in(chart, cells):
    """The inner, ascending."""
    rimming = rims_of_all(chart, outside_of(chart, cells))
    return tuple([cell for cell in cells if cell not in rimming])


def are_bounded(chart, cells):
    return all([chart.is_bounded(cell) for cell in cells])


def neighbours_among(chart, cells):
    """For each of some cells the list of those of them that are neighbours of it."""
    found = {cell: [] for cell in cells}
    for cell in cells:
        for beside in chart.rims_of(cell):
            if beside in found:
                found[cell].append(beside)
                found[beside].append(cell)
    return found


def ways_from(cell, neighbours):
    """For each cell of the piece of a cell that one from which it is reached by a shortest way; None for itself."""
    found = {cell: None}
    waiting = [cell]
    at = 0
    while at < len(waiting):
        for beside in neighbours[waiting[at]]:
            if beside not in found:
                found[beside] = waiting[at]
                waiting.append(beside)
        at += 1
    return found


def pieces_among(chart, cells):
    """The pieces of some ascending cells, each one ascending, by their first cells."""
    neighbours = neighbours_among(chart, cells)
    done = {}
    found = []
    for cell in cells:
        if cell not in done:
            piece = ways_from(cell, neighbours)
            done.update(piece)
            found.append(tuple(sorted(list(piece))))
    return tuple(found)


def holes_in(chart, cells):
    """The bounded pieces of all other cells."""
    return tuple([piece for piece in pieces_among(chart, outside_of(chart, cells)) if are_bounded(chart, piece)])


def way_among(chart, cells, first, last):
    """A shortest way from cell to cell among some cells; None."""
    before = ways_from(last, neighbours_among(chart, cells))
    if first not in before:
        return None
    found = [first]
    while found[-1] != last:
        found.append(before[found[-1]])
    return tuple(found)
