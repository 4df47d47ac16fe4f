"""Numbers with stretches that hold them, made narrower as far as it is needed."""

from twoletters.lifting import fraction_roots, without_roots
from twoletters.rowgcd import row_common, row_plain
from twoletters.rowwork import row_mirrored, row_quotient, row_rest, sign_at_binary, sign_at_fraction
from twoletters.stretches import stretches_of
from twoletters.wholes import fraction_of, is_fraction, is_whole, order_of_fractions, sign_of, simplest_between

GUARD = 12
EARLY = 48


class Point:
    """A number: a fraction, or the one root of a row within a stretch.

    `number` is how it is told. `exact` is the fraction, or None; then `row` is a plain
    row without roots that are fractions, `index` that of this root, and `half` a
    divisor of the row that has this root, too. It lies above low / 2 ** bits and below
    high / 2 ** bits, both of which are no roots of the row.
    """

    def __init__(self, number, exact, row, index, stretch):
        self.number = number
        self.exact = exact
        self.row = row
        self.half = row
        self.index = index
        self.low, self.high, self.bits = stretch
        self.low_sign = 0 if exact else sign_at_binary(row, self.low, self.bits)

    def narrow(self, many=1):
        """Halve the stretch some times."""
        for _ in range(many):
            if self.high - self.low == 1:
                self.low *= 2
                self.high *= 2
                self.bits += 1
            middle = (self.low + self.high) // 2
            if sign_at_binary(self.half, middle, self.bits) == self.low_sign:
                self.low = middle
            else:
                self.high = middle

    def narrow_to(self, bits):
        """Make the stretch no wider than 1 / 2 ** bits."""
        while self.bits < bits or self.high - self.low > 1:
            self.narrow(1)

    def changes_sign(self, row):
        """Whether a row that divides `half` has its one possible root in the stretch."""
        return sign_at_binary(row, self.low, self.bits) != sign_at_binary(row, self.high, self.bits)

    def keep_half(self, row):
        """Go on with a divisor of `half` that has this root."""
        self.half = row
        self.low_sign = sign_at_binary(row, self.low, self.bits)

    def vanishes(self, row):
        """Whether a row other than nought is 0 here; `half` is split by it."""
        shared = row_common(row, self.half)
        if len(shared) == 1:
            return False
        if self.changes_sign(shared):
            self.keep_half(shared)
            return True
        self.keep_half(row_quotient(self.half, shared))
        return False

    def sign(self, row):
        """The sign of any row here."""
        if self.exact:
            return sign_at_fraction(row, self.exact)
        if len(row) >= len(self.half):
            row = row_rest(row, self.half)
        if len(row) < 2:
            return sign_of(row[0]) if row else 0
        is_checked = False
        while True:
            low, high = values_over(row, (self.low, self.high, self.bits))
            if low > 0 or high < 0:
                return 1 if low > 0 else -1
            if not is_checked and self.bits >= EARLY:
                if self.vanishes(row):
                    return 0
                is_checked = True
            self.narrow(8)


def values_over(row, stretch):
    """Two whole numbers between which 2 ** (bits + GUARD) times the row's values over a stretch lie."""
    low, high, bits = stretch
    if high <= 0:
        return values_over(row_mirrored(row), (-high, -low, bits))
    bits += GUARD
    low <<= GUARD
    high <<= GUARD
    least = most = 0
    for number in reversed(row):
        number <<= bits
        least = ((least * (low if least > 0 else high)) >> bits) + number
        most = number - ((-most * (high if most > 0 else low)) >> bits)
    return least, most


def fraction_point(fraction):
    return Point(fraction, fraction, (), 0, (0, 0, 0))


def points_of_plain(row):
    """All roots of a plain row as points, ascending."""
    if len(row) < 2:
        return []
    exact = fraction_roots(row)
    rest = without_roots(row, exact)
    found = []
    if len(rest) > 2:
        for index, stretch in enumerate(stretches_of(rest)):
            found.append(Point((rest, index), None, rest, index, stretch))
    return in_order(found + [fraction_point(each) for each in exact])


def points_of(row):
    """All roots of a row other than nought as points, ascending."""
    return points_of_plain(row_plain(row))


def is_long_row(value):
    """Whether a value is a row of degree 2 at least, with a head above 0."""
    if not isinstance(value, tuple) or len(value) < 3:
        return False
    return all([is_whole(number) for number in value]) and value[-1] > 0


def opened(value):
    """The point of a NUMBER; None for any other value."""
    return opened_by(value, {})


def opened_by(value, known):
    """The point of a NUMBER; None for any other value. The roots of each row are found just once, and kept as known."""
    if is_fraction(value):
        return fraction_point(value)
    if not isinstance(value, tuple) or len(value) != 2:
        return None
    row, index = value
    if not is_whole(index) or index < 0 or not is_long_row(row) or index >= len(row) - 1:
        return None
    if row not in known:
        known[row] = points_of_plain(row) if row_plain(row) == row else []
    if index >= len(known[row]) or known[row][index].exact:
        return None
    point = known[row][index]
    point.number = value
    return point


def order_to_fraction(point, fraction):
    """- 1, 0 or 1 as the point is below, at or above a fraction."""
    if point.exact:
        return order_of_fractions(point.exact, fraction)
    n, m = fraction
    if n << point.bits <= point.low * m:
        return 1
    if n << point.bits >= point.high * m:
        return -1
    return 1 if sign_at_fraction(point.half, fraction) == point.low_sign else -1


def how_many_between(points, low, high):
    """How many of the points are above LOW and up to HIGH; None stands for "below all", "above all"."""
    if low is not None:
        points = [point for point in points if order_to_fraction(point, low) > 0]
    if high is not None:
        points = [point for point in points if order_to_fraction(point, high) <= 0]
    return len(points)


def order_by_stretches(one, other):
    """- 1 or 1 if the stretches of two points that are no fractions have no number in common; otherwise 0."""
    if one.high << other.bits <= other.low << one.bits:
        return -1
    if other.high << one.bits <= one.low << other.bits:
        return 1
    return 0


def have_one_root(one, other):
    """Whether two points the stretches of which meet are one."""
    shared = row_common(one.half, other.half)
    if len(shared) == 1:
        return False
    low = max(one.low << other.bits, other.low << one.bits)
    high = min(one.high << other.bits, other.high << one.bits)
    bits = one.bits + other.bits
    return sign_at_binary(shared, low, bits) != sign_at_binary(shared, high, bits)


def compare(one, other):
    """- 1, 0 or 1 as the first point is below, at or above the other one."""
    if other.exact:
        return order_to_fraction(one, other.exact)
    if one.exact:
        return -order_to_fraction(other, one.exact)
    if one.row == other.row:
        return sign_of(one.index - other.index)
    is_checked = False
    while True:
        found = order_by_stretches(one, other)
        if found:
            return found
        if not is_checked and min(one.bits, other.bits) >= EARLY:
            if have_one_root(one, other):
                return 0
            is_checked = True
        is_wider = (one.high - one.low) << other.bits > (other.high - other.low) << one.bits
        wider = one if is_wider else other
        wider.narrow(4)


def in_order(points):
    """The points in ascending order."""
    if len(points) < 2:
        return points
    half = len(points) // 2
    return merged(in_order(points[:half]), in_order(points[half:]))


def merged(ones, others):
    """Two ascending lists of points as one."""
    found = []
    at = 0
    for point in ones:
        while at < len(others) and compare(others[at], point) < 0:
            found.append(others[at])
            at += 1
        found.append(point)
    return found + others[at:]


def lower_end(point):
    """A fraction up to the point."""
    return point.exact or fraction_of(point.low, 1 << point.bits)


def upper_end(point):
    """A fraction from the point on."""
    return point.exact or fraction_of(point.high, 1 << point.bits)


def fraction_between(one, other):
    """A fraction above the first point and below the other one, which is above the first one."""
    while order_of_fractions(upper_end(one), lower_end(other)) > 0:
        narrow_both(one, other)
    while upper_end(one) == lower_end(other) and (one.exact or other.exact):
        narrow_both(one, other)
    if upper_end(one) == lower_end(other):
        return upper_end(one)
    return simplest_between(upper_end(one), lower_end(other))


def narrow_both(one, other):
    for point in (one, other):
        if not point.exact:
            point.narrow(1)


def fraction_below(point):
    n, m = lower_end(point)
    return (min(-(-n // m) - 1, 0), 1)


def fraction_above(point):
    n, m = upper_end(point)
    return (max(n // m + 1, 0), 1)
