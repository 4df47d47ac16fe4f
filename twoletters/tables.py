"""Tables of signs by roots."""

from twoletters.points import fraction_above, fraction_below, fraction_between, in_order, points_of_plain
from twoletters.rowgcd import parted
from twoletters.rowwork import row_rest, sign_at_fraction


def end_points(rows):
    """All roots of those rows that are not nought as points, ascending, each once."""
    found = []
    for row in parted(rows):
        found = found + points_of_plain(row)
    return in_order(found)


def fraction_in(points, k):
    """A fraction in stretch k of those that ascending points part: above point k - 1, below point k."""
    if not points:
        return (0, 1)
    if k == 0:
        return fraction_below(points[0])
    if k == len(points):
        return fraction_above(points[-1])
    return fraction_between(points[k - 1], points[k])


def is_root(row, point):
    """Whether an end, which has the row's pieces as row, is a root of the row."""
    if point.exact:
        return sign_at_fraction(row, point.exact) == 0
    return not row_rest(row, point.row)


def signs_at_points(rows, points):
    """The columns of the table, the ends of which are told."""
    found = []
    for k in range(len(points) + 1):
        fraction = fraction_in(points, k)
        signs = [sign_at_fraction(row, fraction) for row in rows]
        if k > 0:
            # A row that is not 0 at an end has the sign that it has beside it.
            found.append(tuple([0 if is_root(row, points[k - 1]) else sign for row, sign in zip(rows, signs)]))
        found.append(tuple(signs))
    return tuple(found)
