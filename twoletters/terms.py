"""The POLYs that texts tell, within their limits."""

from twoletters.polywork import ONE, poly_less, poly_plus, poly_times
from twoletters.saywork import width_in_x

MOST_POWER = 4


def is_within_limits(poly):
    """Whether both degrees are up to 4, and no coefficient has more than 100 digits."""
    if len(poly) > MOST_POWER + 1 or width_in_x(poly) > MOST_POWER + 1:
        return False
    limit = 10 ** 50 * 10 ** 50
    return all([abs(number) < limit for row in poly for number in row])


def power_of(poly, many):
    found = ONE
    for _ in range(many):
        found = poly_times(found, poly)
    return found


def number_poly(digits):
    n = int(digits)
    return ((n,),) if n else ()


def made_by(sign, one, other):
    """What a sign makes of two POLYs; of a POLY and a whole number for ^; the difference for a relation's."""
    if sign == "+":
        return poly_plus(one, other)
    if sign == "*":
        return poly_times(one, other)
    return power_of(one, other) if sign == "^" else poly_less(one, other)
