"""POLYs over a point: their degree and their roots there.

Sturm's row of a POLY at a point comes of the subresultants of it and it derived, its
slope chain: those with indexes one below the degree of the one ahead are rests there,
but for factors of which the sign is told by the heads. So nothing but signs of rows at
the point is asked for.
"""

from twoletters.chains import full_rest, poly_subresultants
from twoletters.points import how_many_between, points_of
from twoletters.polywork import poly_along, poly_at_x, poly_derived, poly_less, poly_scaled
from twoletters.rowgcd import row_common
from twoletters.rowwork import row_divided, row_scaled
from twoletters.stretches import sign_changes
from twoletters.wholes import power, shared_by


def cut_at(poly, point):
    """The POLY without the rows above its degree at the point."""
    size = len(poly)
    while size and point.sign(poly[size - 1]) == 0:
        size -= 1
    return poly[:size]


def rests_at(poly, point):
    """The POLY, times a number above 0, its rows put for their rests by the row of a point that is no fraction."""
    half = point.half
    longest = max([len(row) for row in poly])
    if longest < len(half):
        return poly
    rows = []
    for row in poly:
        # Each step of a rest takes the head once: all rows take it equally often.
        missing = longest - max(len(row), len(half) - 1)
        rows.append(row_scaled(full_rest(row, half), power(half[-1], missing)))
    shared = shared_by([shared_by(row) for row in rows])
    return tuple([row_divided(row, shared) for row in rows])


def slope_chain(poly):
    """The subresultants of a POLY of degree 1 at least and it derived."""
    slope = poly_derived(poly)
    return poly_subresultants(poly, slope) if len(poly) > 2 else (slope, poly)


def sturm_at(poly, chain, point):
    """Sturm's row at a point, pairs of a POLY and a sign, of a POLY that has its degree there, of its slope chain."""
    found = [(poly, 1), (chain[-2], 1)]
    head = scale = 1
    last = cut_at(chain[-2], point)
    while len(last) > 1:
        low = len(last) - 1
        head_there = point.sign(last[low])
        scale_there = point.sign(chain[low][low])
        flip = head_there * scale_there * head * scale * found[-2][1]
        last = cut_at(chain[low - 1], point)
        if last:
            found.append((last, flip))
        head, scale = head_there, scale_there
    return found


def changes_behind(sturm, point, fraction):
    """How many changes of signs the row has directly above a fraction."""
    return sign_changes([sign * sign_behind(poly, point, fraction) for poly, sign in sturm])


def sign_behind(poly, point, fraction):
    """The sign at the point directly above a fraction: of the first derivative that is not 0 there."""
    while True:
        found = point.sign(poly_along(poly, fraction))
        if found:
            return found
        poly = poly_derived(poly)


def changes_below_all(sturm, point):
    signs = [sign * point.sign(poly[-1]) for poly, sign in sturm]
    return sign_changes([-sign if len(part[0]) % 2 == 0 else sign for sign, part in zip(signs, sturm)])


def changes_above_all(sturm, point):
    return sign_changes([sign * point.sign(poly[-1]) for poly, sign in sturm])


def count_over(poly, point, low, high):
    """How many roots a POLY has over a point, above LOW and up to HIGH; None stands for "below all", "above all".

    None if it is nought there.
    """
    poly = cut_at(poly, point)
    if not poly:
        return None
    if len(poly) == 1:
        return 0
    if point.exact:
        return how_many_between(points_of(poly_at_x(poly, point.exact)), low, high)
    poly = rests_at(poly, point)
    sturm = sturm_at(poly, slope_chain(poly), point)
    lower = changes_below_all(sturm, point) if low is None else changes_behind(sturm, point, low)
    upper = changes_above_all(sturm, point) if high is None else changes_behind(sturm, point, high)
    return lower - upper


def divisor_chain(poly, other):
    """Subresultants for what two POLYs, the first one being no shorter, have in common where its head is not 0."""
    if len(poly) == len(other):
        # Made shorter by the first one, the other one keeps the roots that it has in common with it.
        other = poly_less(poly_scaled(other, poly[-1]), poly_scaled(poly, other[-1]))
    return poly_subresultants(poly, other) if other else ((),) * (len(poly) - 1) + (poly,)


def divisor_of(chain, point):
    """The first one that has its head at a point: what both have in common there."""
    low = 0
    while len(chain[low]) <= low or point.sign(chain[low][low]) == 0:
        low += 1
    return chain[low][:low + 1]


def common_over(poly, other, point):
    """A POLY the roots of which at the point are those of both, of which neither is nought there."""
    poly, other = rests_at(cut_at(poly, point), point), rests_at(cut_at(other, point), point)
    if len(poly) < len(other):
        poly, other = other, poly
    return poly if len(poly) == 1 else divisor_of(divisor_chain(poly, other), point)


def count_common(poly, other, point):
    """How many roots two POLYs have in common over a point; those of the one that is not nought there."""
    if point.exact:
        row = row_common(poly_at_x(poly, point.exact), poly_at_x(other, point.exact))
        return len(points_of(row)) if row else None
    if not cut_at(poly, point):
        return count_over(other, point, None, None)
    if not cut_at(other, point):
        return count_over(poly, point, None, None)
    return count_over(common_over(poly, other, point), point, None, None)
