"""POLYs over a point: their degree and their roots there.

Sturm's row of a POLY at a point comes of the subresultants of it and it derived: those
with indexes one below the degree of the one ahead are rests there, but for factors of
which the sign is told by the heads. So nothing but signs of rows at the point is asked for.
"""

from twoletters.chains import poly_subresultants
from twoletters.points import how_many_between, points_of
from twoletters.polywork import poly_along, poly_at_x, poly_derived, poly_less, poly_scaled
from twoletters.rowgcd import row_common
from twoletters.stretches import sign_changes


def cut_at(poly, point):
    """The POLY without the rows above its degree at the point."""
    size = len(poly)
    while size and point.sign(poly[size - 1]) == 0:
        size -= 1
    return poly[:size]


def sturm_at(poly, point):
    """Sturm's row at a point, pairs of a POLY and a sign, of a POLY that has its degree there, 1 at least."""
    chain = poly_subresultants(poly, poly_derived(poly))
    found = [(poly, 1), (chain[-2], 1)]
    head = scale = 1
    last = cut_at(chain[-2], point)
    while len(last) > 1:
        low = len(last) - 1
        head_there = point.sign(last[low])
        scale_there = point.sign(chain[low][low])
        flip = head_there * scale_there * head * scale * found[-2][1]
        last = cut_at(chain[low - 1], point)
        if last:
            found.append((last, flip))
        head, scale = head_there, scale_there
    return found


def changes_behind(sturm, point, fraction):
    """How many changes of signs the row has directly above a fraction."""
    return sign_changes([sign * sign_behind(poly, point, fraction) for poly, sign in sturm])


def sign_behind(poly, point, fraction):
    """The sign at the point directly above a fraction: of the first derivative that is not 0 there."""
    while True:
        found = point.sign(poly_along(poly, fraction))
        if found:
            return found
        poly = poly_derived(poly)


def changes_below_all(sturm, point):
    signs = [sign * point.sign(poly[-1]) for poly, sign in sturm]
    return sign_changes([-sign if len(part[0]) % 2 == 0 else sign for sign, part in zip(signs, sturm)])


def changes_above_all(sturm, point):
    return sign_changes([sign * point.sign(poly[-1]) for poly, sign in sturm])


def count_over(poly, point, low, high):
    """How many roots a POLY has over a point, above LOW and up to HIGH; None stands for "below all", "above all".

    None if it is nought there.
    """
    poly = cut_at(poly, point)
    if not poly:
        return None
    if len(poly) == 1:
        return 0
    if point.exact:
        return how_many_between(points_of(poly_at_x(poly, point.exact)), low, high)
    sturm = sturm_at(poly, point)
    lower = changes_below_all(sturm, point) if low is None else changes_behind(sturm, point, low)
    upper = changes_above_all(sturm, point) if high is None else changes_behind(sturm, point, high)
    return lower - upper


def common_over(poly, other, point):
    """A POLY the roots of which at the point are those of both, of which neither is nought there."""
    poly, other = cut_at(poly, point), cut_at(other, point)
    if len(poly) < len(other):
        poly, other = other, poly
    if len(poly) == len(other):
        # Made shorter by the first one, the other one keeps the roots that it has in common with it.
        other = cut_at(poly_less(poly_scaled(other, poly[-1]), poly_scaled(poly, other[-1])), point)
    if not other:
        return poly
    chain = poly_subresultants(poly, other)
    low = 0
    while len(chain[low]) <= low or point.sign(chain[low][low]) == 0:
        low += 1
    return chain[low][:low + 1]


def count_common(poly, other, point):
    """How many roots two POLYs have in common over a point; those of the one that is not nought there."""
    if point.exact:
        row = row_common(poly_at_x(poly, point.exact), poly_at_x(other, point.exact))
        return len(points_of(row)) if row else None
    if not cut_at(poly, point):
        return count_over(other, point, None, None)
    if not cut_at(other, point):
        return count_over(poly, point, None, None)
    return count_over(common_over(poly, other, point), point, None, None)
