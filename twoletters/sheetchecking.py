"""Sheets looked at: whether a value, whatever it is, is one for a lot."""

from twoletters.formwork import opened_ends
from twoletters.gauges import Gauge, do_share
from twoletters.points import compare, fraction_point, order_to_fraction
from twoletters.polys import is_poly
from twoletters.polywork import poly_scaled, poly_times
from twoletters.rows import is_row
from twoletters.rowwork import row_times
from twoletters.saywork import width_in_x
from twoletters.sheets import Sheet, asked_rows, lot_signs
from twoletters.tables import end_points
from twoletters.wholes import is_fraction, is_whole, order_of_fractions

MOST_POWER = 8


def are_powers(value, many):
    """Whether a value is a tuple of so many whole numbers from 0 to 8."""
    if not isinstance(value, tuple) or len(value) != many:
        return False
    return all([is_whole(power) and 0 <= power <= MOST_POWER for power in value])


def has_degrees(poly, product, rows, polys):
    """Whether a product that is not 0 has as many rows as a POLY, and as many numbers in the longest one."""
    high = sum([power * (len(each) - 1) for power, each in zip(product[2], polys)])
    wide = sum([power * (width_in_x(each) - 1) for power, each in zip(product[2], polys)])
    wide = wide + sum([power * (len(row) - 1) for power, row in zip(product[1], rows)])
    return (len(poly), width_in_x(poly)) == (high + 1, wide + 1)


def product_told(product, rows, polys):
    """The POLY that a product with a WHOLE other than 0 makes."""
    content = (product[0],)
    for row, power in zip(rows, product[1]):
        for _ in range(power):
            content = row_times(content, row)
    found = ((1,),)
    for each, power in zip(polys, product[2]):
        for _ in range(power):
            found = poly_times(found, each)
    return poly_scaled(found, content)


def is_product(value, poly, rows, polys):
    """Whether a value tells a POLY as a product."""
    if not isinstance(value, tuple) or len(value) != 3 or not is_whole(value[0]):
        return False
    if not are_powers(value[1], len(rows)) or not are_powers(value[2], len(polys)):
        return False
    if value[0] == 0 or not poly:
        return value[0] == 0 and not poly
    return has_degrees(poly, value, rows, polys) and product_told(value, rows, polys) == poly


def are_products(value, lot, rows, polys):
    if not isinstance(value, tuple) or len(value) != len(lot):
        return False
    return all([is_product(each, poly, rows, polys) for each, poly in zip(value, lot)])


def are_rows(value):
    return isinstance(value, tuple) and all([is_row(row) and len(row) > 1 for row in value])


def are_curves(value):
    """Whether a value is a tuple of POLYs that have y."""
    return isinstance(value, tuple) and all([is_poly(poly) and len(poly) > 1 for poly in value])


def are_splits(value, ends):
    """Whether a value is a tuple of fractions below, between and above all ends."""
    if not isinstance(value, tuple) or len(value) != len(ends) + 1:
        return False
    if not all([is_fraction(split) for split in value]):
        return False
    for low, end, high in zip(value, ends, value[1:]):
        if order_to_fraction(end, low) <= 0 or order_to_fraction(end, high) >= 0:
            return False
    return True


def are_among(points, ends):
    """Whether all of some ascending points are among ascending ends."""
    at = 0
    for point in points:
        while at < len(ends) and compare(ends[at], point) < 0:
            at += 1
        if at == len(ends) or compare(ends[at], point) > 0:
            return False
    return True


def are_ascending(value):
    """Whether a value is an ascending tuple of at least one fraction."""
    if not isinstance(value, tuple) or value == () or not all([is_fraction(each) for each in value]):
        return False
    return all([order_of_fractions(one, other) < 0 for one, other in zip(value, value[1:])])


def is_one_root(here, point, low, high):
    """Whether POLYs, each with a root over a point between two fractions, and none at these, have just one in all."""
    return len(here) > 0 and all([do_share(here[0], other, point, low, high) for other in here[1:]])


def levels_over(gauges, point, fractions):
    """The signs of the POLYS on all levels over a point that some fractions tell; None if they tell none."""
    if not are_ascending(fractions):
        return None
    measures = []
    for gauge in gauges:
        found = gauge.measured(point, fractions)
        if found is None or not found.holds_all():
            return None
        measures.append(found)
    levels = [tuple([each.told[0] for each in measures])]
    for k in range(1, len(fractions)):
        many = [each.up_to[k] - each.up_to[k - 1] for each in measures]
        here = [gauge.poly for gauge, more in zip(gauges, many) if more > 0]
        if max(many, default=0) != 1 or not is_one_root(here, point, fractions[k - 1], fractions[k]):
            return None
        levels.append(tuple([0 if more else each.told[k - 1] for more, each in zip(many, measures)]))
        levels.append(tuple([each.told[k] for each in measures]))
    return levels


def in_turn(ends, splits):
    """The points of all columns."""
    found = [fraction_point(splits[0])]
    for end, split in zip(ends, splits[1:]):
        found.append(end)
        found.append(fraction_point(split))
    return found


def opened_sheet(lot, value):
    """The sheet for a lot that a value is; None if it is none."""
    if not isinstance(value, tuple) or len(value) != 6:
        return None
    rows, polys, products, told_ends, splits, stacks = value
    if not are_rows(rows) or not are_curves(polys) or not are_products(products, lot, rows, polys):
        return None
    ends = opened_ends(told_ends)
    if ends is None or not are_splits(splits, ends):
        return None
    if not isinstance(stacks, tuple) or len(stacks) != 2 * len(ends) + 1:
        return None
    asked = asked_rows(rows, polys)
    if () in asked or not are_among(end_points(asked), ends):
        return None
    gauges = [Gauge(poly) for poly in polys]
    columns = []
    for point, fractions in zip(in_turn(ends, splits), stacks):
        levels = levels_over(gauges, point, fractions)
        if levels is None:
            return None
        columns.append((point, lot_signs(products, [point.sign(row) for row in rows], levels)))
    return Sheet(ends, columns)


class Taker:
    """The sheets of a paper, taken one by one."""

    def __init__(self, sheets):
        self.sheets = sheets
        self.at = 0

    def sheet_for(self, lot):
        """The next sheet; None if there is none, or if it is none for the lot."""
        if not isinstance(self.sheets, tuple) or self.at == len(self.sheets):
            return None
        self.at += 1
        return opened_sheet(lot, self.sheets[self.at - 1])

    def is_done(self):
        """Whether all sheets are taken."""
        return isinstance(self.sheets, tuple) and self.at == len(self.sheets)
