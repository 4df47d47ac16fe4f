"""NUMBERS: fractions and roots of rows."""

from twoletters.errors import InvalidCount, InvalidNumber
from twoletters.points import compare, fraction_between, opened, order_to_fraction
from twoletters.rows import check_row
from twoletters.sums import point_product, point_sum, point_value
from twoletters.wholes import fraction_of, is_whole

MOST = 1000000


def is_number(value):
    """Whether a value, whatever it is, is a NUMBER."""
    return opened(value) is not None


def checked_number(number):
    """The point of a NUMBER."""
    point = opened(number)
    if point is None:
        raise InvalidNumber(number)
    return point


def check_many(many):
    if not is_whole(many) or many < 1 or many > MOST:
        raise InvalidCount(many)


def order(number, other):
    """- 1, 0 or 1 as the first one is below, at or above the other one."""
    one = checked_number(number)
    return compare(one, checked_number(other))


def sign_in(row, number):
    """The sign of the row at the number."""
    check_row(row)
    return checked_number(number).sign(row)


def near(number, many):
    """The greatest whole number k with k / MANY up to the number, and whether that is the number."""
    point = checked_number(number)
    check_many(many)
    if point.exact:
        n, m = point.exact
        return (n * many // m, n * many % m == 0)
    while ((point.high - point.low) * many) >> point.bits:
        point.narrow(1)
    k = point.low * many >> point.bits
    if order_to_fraction(point, fraction_of(k + 1, many)) > 0:
        k += 1
    return (k, False)


def between(number, other):
    """Any fraction above the lesser and below the greater one; None for one number."""
    one = checked_number(number)
    two = checked_number(other)
    found = compare(one, two)
    if found == 0:
        return None
    return fraction_between(one, two) if found < 0 else fraction_between(two, one)


def number_plus(number, other):
    """Any NUMBER that is the sum."""
    one = checked_number(number)
    return point_sum(one, checked_number(other))


def number_times(number, other):
    """Any NUMBER that is the product."""
    one = checked_number(number)
    return point_product(one, checked_number(other))


def number_in(row, number):
    """Any NUMBER that is the row's value at the number."""
    check_row(row)
    return point_value(row, checked_number(number))
