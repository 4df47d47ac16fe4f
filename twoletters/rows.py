"""Rows: polynomials of one letter, with whole numbers."""

from twoletters.errors import InvalidFraction, InvalidRow
from twoletters.rowgcd import row_common, row_plain
from twoletters.rowwork import row_derivative, row_less, row_prime, row_put_in, row_quotient, row_sum
from twoletters.rowwork import row_times, row_value
from twoletters.wholes import is_fraction, is_whole


def is_row(value):
    """Whether a value, whatever it is, is a row."""
    if not isinstance(value, tuple) or not all([is_whole(number) for number in value]):
        return False
    return not value or value[-1] != 0


def check_row(row):
    if not is_row(row):
        raise InvalidRow(row)


def check_no_nought(row):
    if not is_row(row) or not row:
        raise InvalidRow(row)


def check_both(row, other):
    check_row(row)
    check_row(other)


def plus(row, other):
    """The sum."""
    check_both(row, other)
    return row_sum(row, other)


def less(row, other):
    """The row less the other one."""
    check_both(row, other)
    return row_less(row, other)


def times(row, other):
    """The product."""
    check_both(row, other)
    return row_times(row, other)


def derivative(row):
    check_row(row)
    return row_derivative(row)


def value_at(row, fraction):
    """The value, a fraction."""
    check_row(row)
    if not is_fraction(fraction):
        raise InvalidFraction(fraction)
    return row_value(row, fraction)


def prime_part(row):
    check_row(row)
    return row_prime(row)


def common(row, other):
    """The common row."""
    check_both(row, other)
    return row_common(row, other)


def over(row, other):
    """The prime part of the row over the other one; None if that does not divide it."""
    check_row(row)
    check_no_nought(other)
    return row_quotient(row_prime(row), row_prime(other))


def plain(row):
    """The plain row of a row other than nought."""
    check_no_nought(row)
    return row_plain(row)


def put_in(row, other):
    """The row with the other one in the place of x."""
    check_both(row, other)
    return row_put_in(row, other)
