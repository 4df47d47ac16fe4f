"""The roots of a POLY over a point, held apart and made narrower.

All signs are told by bounds of coefficients at the point. Where they do not tell one,
another number beside is tried, and the point is made narrower: as there are finitely
many roots, some number is told at last. So no number is ever asked whether it is a root.
"""

from twoletters.overwork import changes_above_all, changes_below_all
from twoletters.points import order_by_stretches, values_over
from twoletters.rowwork import sign_at_binary
from twoletters.stretches import reach_of, sign_changes, stretches_of

SHARP = 64
STEPS = (1, -1, 3, -3)


def bounds_at(poly, point):
    """Pairs of whole numbers between which all coefficients at a point, times one number above 0, lie.

    At a point that is a fraction the POLY is one of y alone.
    """
    if point.exact:
        return [(row[0], row[0]) if row else (0, 0) for row in poly]
    return [values_over(row, (point.low, point.high, point.bits)) for row in poly]


def sides_of(bounds):
    """The lower and the upper bounds of coefficients, from y on upwards; then those from - y on."""
    lower = [least for least, most in bounds]
    upper = [most for least, most in bounds]
    back_lower = [-most if k & 1 else least for k, (least, most) in enumerate(bounds)]
    back_upper = [-least if k & 1 else most for k, (least, most) in enumerate(bounds)]
    return lower, upper, back_lower, back_upper


def told_sign(sides, n, bits):
    """The sign at n / 2 ** bits of all polynomials within the bounds; 0 if they do not tell it."""
    lower, upper, back_lower, back_upper = sides
    if n < 0:
        n, lower, upper = -n, back_lower, back_upper
    if sign_at_binary(lower, n, bits) > 0:
        return 1
    return -1 if sign_at_binary(upper, n, bits) < 0 else 0


def cuts(low, high, tries):
    """Numbers between two, over 2 ** (3 + TRIES); other ones for each number of tries."""
    middle = (low + high) << (2 + tries)
    found = [middle + step * (high - low) for step in STEPS]
    return found if tries else [middle] + found


def plainer(low, high, bits):
    """A stretch told by smaller numbers."""
    both = low | high
    spare = min(bits, (both & -both).bit_length() - 1)
    return low >> spare, high >> spare, bits - spare


class Curve:
    """A POLY over a point, told by Sturm's row of it there."""

    def __init__(self, sturm, point):
        self.sturm = sturm
        self.point = point
        self.sides = []
        self.lowest = changes_below_all(sturm, point)
        self.many = self.lowest - changes_above_all(sturm, point)
        if not point.exact and point.bits < SHARP:
            point.narrow_to(SHARP)
        self.measure()

    def measure(self):
        self.sides = [sides_of(bounds_at(poly, self.point)) for poly, flip in self.sturm]

    def sharpen(self):
        """Make all bounds narrower."""
        if not self.point.exact:
            self.point.narrow_to(2 * self.point.bits)
            self.measure()

    def head_sign(self):
        return self.point.sign(self.sturm[0][0][-1])

    def lowest_sign(self):
        """The sign below all roots."""
        return self.head_sign() if len(self.sturm[0][0]) & 1 else -self.head_sign()

    def sign_at(self, n, bits):
        """The sign at n / 2 ** bits; 0 if it is not told."""
        return told_sign(self.sides[0], n, bits)

    def below(self, n, bits):
        """How many roots are below n / 2 ** bits; None if it is not told, as for a root."""
        signs = []
        for part, sides in zip(self.sturm, self.sides):
            sign = told_sign(sides, n, bits)
            if sign == 0:
                return None
            signs.append(part[1] * sign)
        return self.lowest - sign_changes(signs)

    def reach(self):
        """Some k for which all roots lie strictly between - 2 ** k and 2 ** k."""
        while self.sides[0][0][-1] <= 0 <= self.sides[0][1][-1]:
            self.sharpen()
        sizes = [max(abs(least), abs(most)) for least, most in zip(self.sides[0][0], self.sides[0][1])]
        sizes[-1] = min(abs(self.sides[0][0][-1]), abs(self.sides[0][1][-1]))
        return reach_of(sizes)

    def cut_in(self, stretch):
        """A number within a stretch, and how many roots are below it."""
        low, high, bits = stretch
        tries = 0
        while True:
            for n in cuts(low, high, tries):
                many = self.below(n, bits + 3 + tries)
                if many is not None:
                    return n, bits + 3 + tries, many
            self.sharpen()
            tries += 1

    def spots(self):
        """All roots, ascending."""
        found = self.apart() if self.many else []
        sign = self.lowest_sign()
        for spot in found:
            spot.low_sign = sign
            sign = spot.high_sign
        return found

    def apart(self):
        reach = self.reach()
        found = []
        waiting = [((-1 << max(reach, 0), 1 << max(reach, 0), max(-reach, 0)), 0, self.many, self.head_sign())]
        while waiting:
            stretch, before, behind, sign = waiting.pop()
            if behind - before == 1:
                found.append(Spot(self, before, stretch, sign))
            if behind - before > 1:
                n, bits, many = self.cut_in(stretch)
                low, high = stretch[0] << (bits - stretch[2]), stretch[1] << (bits - stretch[2])
                waiting.append((plainer(n, high, bits), many, behind, sign))
                waiting.append((plainer(low, n, bits), before, many, self.sign_at(n, bits)))
        return found


class Spot:
    """A root of a curve: the only one above low / 2 ** bits and below high / 2 ** bits, which are no roots."""

    def __init__(self, curve, index, stretch, high_sign):
        self.curve = curve
        self.index = index
        self.low, self.high, self.bits = stretch
        self.low_sign = 0
        self.high_sign = high_sign

    def narrow(self):
        """Take an eighth of the stretch away, or more."""
        tries = 0
        while True:
            for n in cuts(self.low, self.high, tries):
                side = self.side_of(n, self.bits + 3 + tries)
                if side:
                    low = self.low << (3 + tries)
                    high = self.high << (3 + tries)
                    low, high = (n, high) if side > 0 else (low, n)
                    self.low, self.high, self.bits = plainer(low, high, self.bits + 3 + tries)
                    return
            self.curve.sharpen()
            tries += 1

    def side_of(self, n, bits):
        """1 or - 1 as the root is above or below n / 2 ** bits, which is within the stretch; 0 if it is not told."""
        if self.low_sign * self.high_sign < 0:
            return self.curve.sign_at(n, bits) * self.low_sign
        many = self.curve.below(n, bits)
        if many is None:
            return 0
        return -1 if many > self.index else 1


class FixedCurve:
    """A POLY of y alone, told by a plain row of degree 1, or without fractions as roots, with a head above 0."""

    def __init__(self, row):
        self.row = row

    def sign_at(self, n, bits):
        return sign_at_binary(self.row, n, bits)

    def sharpen(self):
        """There is nothing to be made narrower."""

    def lowest_sign(self):
        return 1 if len(self.row) & 1 else -1

    def spots(self):
        if len(self.row) == 2:
            n, m = -self.row[0], self.row[1]
            stretches = [(-(-n // m) - 1, n // m + 1, 0)]
        else:
            stretches = stretches_of(self.row)
        found = []
        sign = self.lowest_sign()
        for index, stretch in enumerate(stretches):
            sign = -sign
            spot = Spot(self, index, stretch, sign)
            spot.low_sign = -sign
            found.append(spot)
        return found


def meeting(spot, spots):
    """The index of that one of some ascending roots which is the root that is told."""
    found = spots
    while len(found) > 1:
        found = [each for each in found if order_by_stretches(each, spot) == 0]
        if len(found) > 1:
            spot.narrow()
    return found[0].index
