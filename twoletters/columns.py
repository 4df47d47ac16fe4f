"""A lot over a point: all sections, ascending, and the signs on all levels."""

from twoletters.curves import meeting
from twoletters.lots import curve_of
from twoletters.points import compare, fraction_point, order_by_stretches
from twoletters.tables import fraction_in
from twoletters.wholes import fraction_of, simplest_between

PATIENCE = 40


def narrow_wider(one, other):
    """Narrow that one of two spots which has the wider stretch."""
    is_wider = (one.high - one.low) << other.bits > (other.high - other.low) << one.bits
    wider = one if is_wider else other
    wider.narrow()


class Column:
    """What a lot is over a point.

    `sections` are lists of pairs of the index of a piece and a Spot, all of which are one
    number; ascending. What stands there of a POLY that is nought at the point counts for
    nothing.
    """

    def __init__(self, lot, point):
        self.lot = lot
        self.point = point
        self.row_signs = [point.sign(row) for row, powers in lot.parts]
        self.roots = {}
        self.shared = {}
        self.sections = []
        needed = {}
        for row_sign, part in zip(self.row_signs, lot.parts):
            if row_sign:
                needed.update({k: None for k, power in part[1]})
        for k, index in lot.lines:
            if k not in needed:
                needed[k] = {}
            if needed[k] is not None:
                needed[k][index] = True
        for k, wanted in needed.items():
            self.roots[k] = lot.pieces[k].roots_over(point)
            self.merge(k, [spot for spot in self.roots[k][1] if wanted is None or spot.index in wanted])

    def merge(self, k, spots):
        """Put the roots of a piece into the sections."""
        found = []
        at = 0
        for spot in spots:
            side = self.side_of(at, k, spot)
            while side < 0:
                found.append(self.sections[at])
                at += 1
                side = self.side_of(at, k, spot)
            if side == 0:
                found.append(self.sections[at] + [(k, spot)])
                at += 1
            else:
                found.append([(k, spot)])
        self.sections = found + self.sections[at:]

    def side_of(self, at, k, spot):
        """- 1, 0 or 1 as a section is below, at or above a root."""
        if at == len(self.sections):
            return 1
        i, one = self.sections[at][0]
        tries = 0
        while True:
            found = order_by_stretches(one, spot)
            if found:
                return found
            if tries == PATIENCE and self.are_one(i, one, k, spot):
                return 0
            tries += 1
            narrow_wider(one, spot)

    def are_one(self, i, one, j, other):
        """Whether roots of two pieces are one number."""
        if (i, j) not in self.shared:
            self.shared[i, j] = self.shared_roots(i, j)
        return (one.index, other.index) in self.shared[i, j]

    def shared_roots(self, i, j):
        """Pairs of indexes of those roots of two pieces that are one number."""
        poly = self.lot.common_at(i, j, self.point)
        if len(poly) < 2:
            return {}
        found = {}
        for spot in curve_of(poly, None, self.point).spots():
            found[meeting(spot, self.roots[i][1]), meeting(spot, self.roots[j][1])] = True
        return found

    def signs(self):
        """For each level, from below, the tuple of the signs of all POLYs."""
        now = {k: sign for k, (sign, spots) in self.roots.items()}
        found = [self.poly_signs(now)]
        for members in self.sections:
            now.update({k: 0 for k, spot in members})
            found.append(self.poly_signs(now))
            now.update({k: spot.high_sign for k, spot in members})
            found.append(self.poly_signs(now))
        return tuple(found)

    def poly_signs(self, now):
        """The signs of all POLYs, those of the pieces being told."""
        found = []
        for row_sign, part in zip(self.row_signs, self.lot.parts):
            if row_sign:
                for k, power in part[1]:
                    row_sign *= now[k] if power & 1 else now[k] * now[k]
            found.append(row_sign)
        return tuple(found)

    def told_sections(self, signs):
        """For each section the least index of a POLY with this root, and the root's index; None if there is none."""
        many = [0] * len(self.row_signs)
        found = []
        for on_section in signs[1::2]:
            roots = [k for k, sign in enumerate(on_section) if sign == 0 and self.row_signs[k]]
            found.append((roots[0], many[roots[0]]) if roots else None)
            for k in roots:
                many[k] += 1
        return tuple(found)

    def fraction_on(self, level):
        """A fraction on an even level."""
        at = level // 2
        below = self.sections[at - 1][0][1] if at > 0 else None
        above = self.sections[at][0][1] if at < len(self.sections) else None
        if below is None and above is None:
            return (0, 1)
        if below is None:
            return (min(above.low >> above.bits, 0), 1)
        if above is not None:
            # Of what is one number with either of them only one stretch was held apart from the other one.
            while order_by_stretches(below, above) == 0:
                narrow_wider(below, above)
        low = fraction_of(below.high, 1 << below.bits)
        if above is None:
            return (max(-(-low[0] // low[1]), 0), 1)
        high = fraction_of(above.low, 1 << above.bits)
        return low if low == high else simplest_between(low, high)

    def line_levels(self):
        """The levels of all lines of the lot."""
        found = {}
        for at, members in enumerate(self.sections):
            found.update({(k, spot.index): 2 * at + 1 for k, spot in members})
        return [found[line] for line in self.lot.lines]

    def level_of(self, k, index):
        """The level of a root of a POLY that is not nought here."""
        level = 1
        for on_section in self.signs()[1::2]:
            if on_section[k] == 0:
                if index == 0:
                    return level
                index -= 1
            level += 2
        return None


def column_point(turns, k):
    """A point in a column: the turn itself, or a fraction."""
    return turns[k // 2] if k % 2 else fraction_point(fraction_in(turns, k // 2))


def index_of_column(turns, point):
    """The column in which a point is."""
    for k, turn in enumerate(turns):
        side = compare(point, turn)
        if side <= 0:
            return 2 * k + (1 if side == 0 else 0)
    return 2 * len(turns)
