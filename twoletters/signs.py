"""Tables of signs of rows."""

from twoletters.errors import InvalidRows
from twoletters.resttables import signs_without_roots
from twoletters.rows import is_row
from twoletters.tables import end_points, signs_at_points

MOST_ROWS = 6


def check_rows(rows):
    if not isinstance(rows, tuple) or len(rows) > MOST_ROWS:
        raise InvalidRows(None)
    for index, row in enumerate(rows):
        if not is_row(row):
            raise InvalidRows(index)


def signs_by_roots(rows):
    """The table, found by roots."""
    check_rows(rows)
    return signs_at_points(rows, end_points(rows))


def signs_by_rests(rows):
    """The table, found without any root."""
    check_rows(rows)
    return signs_without_roots(rows)


def ends_of(rows):
    """The ends of the table, ascending NUMBERS."""
    check_rows(rows)
    return tuple([point.number for point in end_points(rows)])
