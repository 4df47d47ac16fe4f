"""Where the sections over a column go as x goes to a turn beside it.

The core is taken by its pieces. Fractions on the even levels over the turn part the
sections there; near enough to the turn no root of the core crosses one of them.
"""

from twoletters.points import compare, fraction_above, fraction_below, fraction_between, how_many_between, points_of
from twoletters.polywork import poly_along, poly_at_x


def crossings(polys, marks):
    """The points at which one of the POLYs is 0 at one of some fractions y, at some x; in any order."""
    found = []
    for poly in polys:
        for mark in marks:
            found = found + points_of(poly_along(poly, mark))
    return found


def last_below(points, turn, last):
    """The greatest one of the points below a turn, and LAST, which may be None."""
    for point in points:
        if compare(point, turn) < 0 and (last is None or compare(last, point) < 0):
            last = point
    return last


def first_above(points, turn, first):
    """The least one of the points above a turn, and FIRST, which may be None."""
    for point in points:
        if compare(point, turn) > 0 and (first is None or compare(point, first) < 0):
            first = point
    return first


def goals_from(polys, marks, x):
    """The goals of the sections over a fraction that is near enough to the turn, by the marks between those there."""
    points = []
    for poly in polys:
        points = points + points_of(poly_at_x(poly, x))
    below = [how_many_between(points, None, mark) for mark in marks]
    found = [-1] * below[0]
    for k in range(1, len(marks)):
        found = found + [2 * k - 1] * (below[k] - below[k - 1])
    return tuple(found + [2 * len(marks) - 1] * (len(points) - below[-1]))


def goals_at(polys, turns, k, marks):
    """The goals at turn k of the sections below it, and of those above it."""
    turn = turns[k]
    points = crossings(polys, marks)
    low = last_below(points, turn, turns[k - 1] if k > 0 else None)
    high = first_above(points, turn, turns[k + 1] if k + 1 < len(turns) else None)
    below = fraction_below(turn) if low is None else fraction_between(low, turn)
    above = fraction_above(turn) if high is None else fraction_between(turn, high)
    return (goals_from(polys, marks, below), goals_from(polys, marks, above))
