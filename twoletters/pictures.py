"""Pictures of sayings: letters, and the bytes of a picture of greys."""

from twoletters.cases import Case
from twoletters.errors import InvalidCount, InvalidPoint
from twoletters.fields import is_so
from twoletters.kernels import kernel_of
from twoletters.points import order_to_fraction
from twoletters.polywork import poly_at_x
from twoletters.rowwork import sign_at_fraction
from twoletters.sayings import check_saying
from twoletters.wholes import fraction_of, is_fraction, is_whole, order_of_fractions

MOST_ROWS = 48
SIGNATURE = (137, 80, 78, 71, 13, 10, 26, 10)
HEADER = (73, 72, 68, 82)
DATA = (73, 68, 65, 84)
END = (73, 69, 78, 68)
ALL_ONES = 4294967295
CHECK_MASK = 3988292384
SUM_MODULUS = 65521


def is_point(value):
    return isinstance(value, tuple) and len(value) == 2 and is_fraction(value[0]) and is_fraction(value[1])


def check_window(saying, low, high, count):
    check_saying(saying)
    if not is_point(low):
        raise InvalidPoint(low)
    if not is_point(high) or any([order_of_fractions(low[k], high[k]) >= 0 for k in (0, 1)]):
        raise InvalidPoint(high)
    if not is_whole(count) or count < 1 or count > MOST_ROWS:
        raise InvalidCount(count)


def middles(low, high, count):
    """The middles of so many equal stretches between two fractions, ascending."""
    top = high[0] * low[1] - low[0] * high[1]
    found = []
    for k in range(count):
        n = 2 * count * low[0] * high[1] + (2 * k + 1) * top
        found.append(fraction_of(n, 2 * count * low[1] * high[1]))
    return found


def truths_in(saying, low, high, count):
    """For each row, from above, whether the saying is so at the middles of its columns."""
    case = Case(kernel_of(saying))
    columns = []
    for x in middles(low[0], high[0], count):
        sides = [-order_to_fraction(end, x) for end in case.x_ends]
        columns.append((sides, [poly_at_x(poly, x) for poly in case.lot]))
    found = []
    for y in reversed(middles(low[1], high[1], count)):
        y_sides = [-order_to_fraction(end, y) for end in case.y_ends]
        truths = []
        for x_sides, rows in columns:
            signs = [sign_at_fraction(row, y) for row in rows]
            truths.append(is_so(case.code, signs, x_sides, y_sides))
        found.append(truths)
    return found


def letters(saying, low, high, count):
    """Rows of signs: "#" where the saying is so at the middle, "." where not."""
    check_window(saying, low, high, count)
    rows = truths_in(saying, low, high, count)
    return tuple(["".join(["#" if truth else "." for truth in row]) for row in rows])


def four_bytes(number):
    """A whole number, the greatest byte first."""
    return [number >> shift & 255 for shift in (24, 16, 8, 0)]


def check_number(numbers):
    """The check number of some bytes."""
    found = ALL_ONES
    for number in numbers:
        found ^= number
        for _ in range(8):
            found = found >> 1 ^ (CHECK_MASK if found & 1 else 0)
    return found ^ ALL_ONES


def sum_number(numbers):
    """The sum number of some bytes."""
    one, other = 1, 0
    for number in numbers:
        one = (one + number) % SUM_MODULUS
        other = (other + one) % SUM_MODULUS
    return 65536 * other + one


def chunk(name, numbers):
    """How many bytes there are, the name, the bytes, and the check number of both."""
    named = list(name) + numbers
    return four_bytes(len(numbers)) + named + four_bytes(check_number(named))


def packed_rows(rows):
    """The bytes of rows as they stand, with what has to stand ahead and behind."""
    many = len(rows)
    less = 65535 - many
    ahead = [120, 1, 1, many & 255, many >> 8, less & 255, less >> 8]
    return ahead + rows + four_bytes(sum_number(rows))


def picture_bytes(saying, low, high, count):
    """The bytes of a picture of greys: 0 where the saying is so at the middle, 255 where not."""
    check_window(saying, low, high, count)
    rows = []
    for truths in truths_in(saying, low, high, count):
        rows.append(0)
        rows.extend([0 if truth else 255 for truth in truths])
    size = four_bytes(count) + four_bytes(count) + [8, 0, 0, 0, 0]
    return tuple(list(SIGNATURE) + chunk(HEADER, size) + chunk(DATA, packed_rows(rows)) + chunk(END, []))
