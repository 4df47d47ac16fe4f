"""Pins: places told by a number and a fraction, or by a number and the one root of a POLY between two fractions."""

from twoletters.fields import is_so
from twoletters.gauges import do_share, many_between, sign_over
from twoletters.overwork import cut_at
from twoletters.placework import checked_place, column_at
from twoletters.points import opened, order_to_fraction
from twoletters.polys import is_poly
from twoletters.wholes import is_fraction, order_of_fractions


class FractionPin:
    """A pin with a fraction as y: it tells all signs and all sides."""

    def __init__(self, point, y):
        self.point = point
        self.y = y

    def sign(self, poly):
        return sign_over(poly, self.point, self.y)

    def side(self, end, sign):
        """- 1, 0 or 1 as y is below, at or above an end of a form of y, the sign of its POLY being told."""
        return -order_to_fraction(end, self.y)


class RootPin:
    """A pin with the one root of a POLY between two fractions, which are none, as y."""

    def __init__(self, point, low, high, poly):
        self.point = point
        self.low = low
        self.high = high
        self.poly = poly

    def is_good(self):
        if not cut_at(self.poly, self.point):
            return False
        if 0 in (sign_over(self.poly, self.point, self.low), sign_over(self.poly, self.point, self.high)):
            return False
        return many_between(self.poly, self.point, self.low, self.high) == 1

    def sign(self, poly):
        """The sign of a POLY; None if the pin does not tell it."""
        cut = cut_at(poly, self.point)
        if not cut:
            return 0
        many = many_between(cut, self.point, self.low, self.high)
        if many == 0:
            return sign_over(cut, self.point, self.low) or None
        if many == 1 and do_share(cut, self.poly, self.point, self.low, self.high):
            return 0
        return None

    def side(self, end, sign):
        """- 1, 0 or 1 as y is below, at or above an end of a form of y; None if the pin does not tell it."""
        if order_to_fraction(end, self.low) <= 0:
            return 1
        if order_to_fraction(end, self.high) >= 0:
            return -1
        return 0 if sign == 0 else None


def opened_pin(value):
    """The pin that a value is; None if it is none."""
    if not isinstance(value, tuple) or len(value) != 2:
        return None
    point = opened(value[0])
    if point is None:
        return None
    if is_fraction(value[1]):
        return FractionPin(point, value[1])
    if not isinstance(value[1], tuple) or len(value[1]) != 3:
        return None
    low, high, poly = value[1]
    if not is_fraction(low) or not is_fraction(high) or order_of_fractions(low, high) >= 0 or not is_poly(poly):
        return None
    pin = RootPin(point, low, high, poly)
    return pin if pin.is_good() else None


def truth_at_pin(case, pin):
    """Whether a kernel is so at a pin; None if the pin does not tell it."""
    signs = [pin.sign(poly) for poly in case.lot]
    if None in signs:
        return None
    y_sides = [pin.side(end, signs[k]) for k, end in zip(case.y_polys, case.y_ends)]
    if None in y_sides:
        return None
    return is_so(case.code, signs, case.x_sides(pin.point), y_sides)


def pin_at(place, lot):
    """A pin for a PLACE that tells all POLYs of a lot."""
    number, y = place
    if is_fraction(y):
        return place
    column, level = column_at(lot, [], checked_place(place))
    return (number, (column.fraction_on(level - 1), column.fraction_on(level + 1), y[0]))
