"""POLYs over a NUMBER: what is 0 there, degrees, roots."""

from twoletters.numbers import checked_number
from twoletters.overwork import count_common, count_over, cut_at
from twoletters.points import compare, points_of_plain
from twoletters.polys import check_fraction, check_poly, check_two_polys
from twoletters.rowgcd import row_common
from twoletters.rows import check_row
from twoletters.rowwork import row_quotient
from twoletters.wholes import order_of_fractions


def split(number, row):
    """Whether the row is 0 at the number, and the number told by just the half of its ROW that has it as a root."""
    point = checked_number(number)
    check_row(row)
    if point.exact:
        return (point.sign(row) == 0, number)
    shared = row_common(row, number[0])
    half = row_common(shared, point.row)
    is_nought = len(half) > 1 and point.changes_sign(half)
    if not is_nought:
        shared = row_quotient(number[0], shared)
    if shared == number[0]:
        return (is_nought, number)
    return (is_nought, (shared, len([each for each in points_of_plain(shared) if compare(each, point) < 0])))


def degree_at(poly, number):
    """The degree at the number; None if it is nought there."""
    check_poly(poly)
    found = len(cut_at(poly, checked_number(number))) - 1
    return None if found < 0 else found


def many_roots(poly, number):
    """How many roots it has there; None if it is nought there."""
    check_poly(poly)
    return count_over(poly, checked_number(number), None, None)


def roots_between(poly, number, low, high):
    """How many of them are above LOW and up to HIGH; None if it is nought there."""
    check_poly(poly)
    point = checked_number(number)
    check_fraction(low)
    check_fraction(high)
    if order_of_fractions(low, high) >= 0:
        return 0 if cut_at(poly, point) else None
    return count_over(poly, point, low, high)


def many_common(poly, other, number):
    """How many roots both have there in common."""
    check_two_polys(poly, other)
    return count_common(poly, other, checked_number(number))
