"""The roots of a row: counted, told, held apart."""

from twoletters.errors import InvalidFraction
from twoletters.points import how_many_between, lower_end, narrow_both, points_of, upper_end
from twoletters.rows import check_no_nought
from twoletters.wholes import is_fraction, order_of_fractions


def check_end(fraction):
    if fraction is not None and not is_fraction(fraction):
        raise InvalidFraction(fraction)


def count_roots(row, low, high):
    """How many unlike roots are above LOW and up to HIGH; None is "below all", "above all"."""
    check_no_nought(row)
    check_end(low)
    check_end(high)
    return how_many_between(points_of(row), low, high)


def roots_of(row):
    """All unlike roots, ascending."""
    check_no_nought(row)
    return tuple([point.number for point in points_of(row)])


def held_apart(row):
    """For each root a pair of fractions from the first to the second of which it is the only root."""
    check_no_nought(row)
    found = points_of(row)
    for one, other in zip(found, found[1:]):
        # Narrower ones stay apart from those that are narrow enough already.
        while order_of_fractions(upper_end(one), lower_end(other)) >= 0:
            narrow_both(one, other)
    return tuple([(lower_end(point), upper_end(point)) for point in found])
