"""How many roots a POLY has below fractions over a point, and between two of them: what the checker counts."""

from twoletters.chains import as_constants
from twoletters.lots import FEW
from twoletters.overwork import changes_above_all, changes_below_all, common_over, count_over, cut_at, rests_at
from twoletters.overwork import slope_chain, sturm_at
from twoletters.pieces_of_lots import has_x
from twoletters.points import how_many_between, points_of
from twoletters.polywork import poly_along, poly_at_x, poly_exchanged
from twoletters.rowgcd import row_common
from twoletters.rowwork import sign_at_fraction
from twoletters.stretches import sign_changes


def sign_over(poly, point, fraction):
    """The sign of a POLY over a point at a fraction."""
    return point.sign(poly_along(poly, fraction))


def many_between(poly, point, low, high):
    """How many unlike roots a POLY that is not nought at a point has there strictly between two fractions."""
    found = count_over(poly, point, low, high)
    return found - 1 if sign_over(poly, point, high) == 0 else found


def common_there(poly, other, point):
    """A POLY the roots of which at a point are those of both, of which neither is nought there."""
    if point.exact:
        return as_constants(row_common(poly_at_x(poly, point.exact), poly_at_x(other, point.exact)))
    return common_over(poly, other, point)


def do_share(poly, other, point, low, high):
    """Whether two POLYs, each with just one root over a point between two fractions and none at these, share it."""
    return count_over(common_there(poly, other, point), point, low, high) == 1


class Measure:
    """A POLY over a point: its signs at some fractions, how many roots are up to each, and how many there are."""

    def __init__(self, told, up_to, many):
        self.told = told
        self.up_to = up_to
        self.many = many

    def holds_all(self):
        """Whether no fraction is a root, and all roots are between the first and the last one."""
        return 0 not in self.told and self.up_to[0] == 0 and self.up_to[-1] == self.many


class Gauge:
    """A POLY, and what is known of it for all points."""

    def __init__(self, poly):
        self.poly = poly
        self.chains = {}
        self.row = None if has_x(poly) else poly_exchanged(poly)[0]
        self.points = [] if has_x(poly) else points_of(self.row)

    def measured(self, point, fractions):
        """The measure over a point at ascending fractions; None if the POLY is nought there."""
        if self.row is not None:
            return measure_by(self.row, self.points, fractions)
        if point.exact:
            row = poly_at_x(self.poly, point.exact)
            return measure_by(row, points_of(row), fractions) if row else None
        cut = cut_at(self.poly, point)
        if len(cut) < 2:
            return Measure([point.sign(cut[0])] * len(fractions), [0] * len(fractions), 0) if cut else None
        return measure_over(self.sturm_over(cut, point), point, fractions)

    def sturm_over(self, cut, point):
        """Sturm's row of what is left of the POLY over a point."""
        if len(cut) > FEW:
            cut = rests_at(cut, point)
            return sturm_at(cut, slope_chain(cut), point)
        if len(cut) not in self.chains:
            self.chains[len(cut)] = slope_chain(cut)
        return sturm_at(cut, self.chains[len(cut)], point)


def measure_by(row, points, fractions):
    signs = [sign_at_fraction(row, fraction) for fraction in fractions]
    return Measure(signs, [how_many_between(points, None, fraction) for fraction in fractions], len(points))


def measure_over(sturm, point, fractions):
    lowest = changes_below_all(sturm, point)
    signs = []
    below = []
    for fraction in fractions:
        here = [flip * sign_over(poly, point, fraction) for poly, flip in sturm]
        signs.append(here[0])
        below.append(lowest - sign_changes(here))
    return Measure(signs, below, lowest - changes_above_all(sturm, point))
