"""Which cells rim one another once more: by numbers that are near to the turns, and pieces by what is joined one by one."""

from fractions import Fraction

from tests import numeric

BESIDE = Fraction(1, 2 ** 40)
CLOSE = Fraction(1, 2 ** 12)
FAR = 2 ** 12
BELOW, ABOVE = -10 ** 9, 10 ** 9


def sections_at(curves, x):
    """The roots of bare POLYs of degree 1 or 2 at a number."""
    return numeric.unlike([root for curve in curves for root in numeric.factor_roots(curve, x)])


class NaiveChart:
    """All cells, told by the turns and by bare POLYs all roots of which are sections."""

    def __init__(self, ends, curves):
        turns = [numeric.nearest(end) for end in ends]
        self.turns = [sections_at(curves, x) for x in turns]
        self.beside = [(sections_at(curves, x - BESIDE), sections_at(curves, x + BESIDE)) for x in turns]
        self.open = [each[0] for each in self.beside] + [self.beside[-1][1] if turns else sections_at(curves, Fraction(0))]
        for k, sides in enumerate(self.beside):
            assert len(sides[1]) == len(self.open[k + 1])

    def sections(self, column):
        return self.turns[column // 2] if column % 2 else self.open[column // 2]

    def goal(self, y, turn):
        if y < -FAR:
            return -1
        if y > FAR:
            return 2 * len(self.turns[turn]) + 1
        near = [k for k, root in enumerate(self.turns[turn]) if abs(root - y) < CLOSE]
        assert len(near) == 1, (y, self.turns[turn])
        return 2 * near[0] + 1

    def goals(self):
        return tuple(tuple(tuple(self.goal(y, k) for y in side) for side in sides) for k, sides in enumerate(self.beside))

    def cells(self):
        return [(column, level) for column in range(2 * len(self.turns) + 1) for level in range(2 * len(self.sections(column)) + 1)]

    def stretch(self, roots, level):
        """The y from which, and up to which, a level goes."""
        if level % 2:
            return roots[level // 2], roots[level // 2]
        low = roots[level // 2 - 1] if level else BELOW
        return low, roots[level // 2] if level // 2 < len(roots) else ABOVE

    def does_rim(self, cell, other):
        """Whether near to a place of the first cell there is one of the other one."""
        (column, level), (beside, at) = cell, other
        if column == beside:
            return level % 2 == 1 and at % 2 == 0 and abs(level - at) == 1
        if column % 2 == 0 or abs(column - beside) != 1:
            return False
        low, high = self.stretch(self.turns[column // 2], level)
        y = low if low == high else Fraction(low + high, 2)
        if low == BELOW or high == ABOVE:
            y = 0 if high - low == ABOVE - BELOW else high - 1 if low == BELOW else low + 1
        low, high = self.stretch(self.beside[column // 2][0 if beside < column else 1], at)
        return low - CLOSE < y < high + CLOSE

    def is_bounded(self, cell):
        column, level = cell
        low, high = self.stretch(self.sections(column), level)
        if low == BELOW or high == ABOVE:
            return False
        if column % 2:
            return True
        if column in (0, 2 * len(self.turns)):
            return False
        for sections in (self.beside[column // 2 - 1][1], self.beside[column // 2][0]):
            low, high = self.stretch(sections, level)
            if low < -FAR or high > FAR:
                return False
        return True

    def pieces(self, cells):
        """Cells put together as long as any two of unlike pieces are neighbours."""
        found = [[cell] for cell in cells]
        joined = True
        while joined:
            joined = False
            for one in found:
                for other in found:
                    if one is not other and any(self.does_rim(a, b) or self.does_rim(b, a) for a in one for b in other):
                        one.extend(other)
                        found.remove(other)
                        joined = True
                        break
                if joined:
                    break
        return tuple(sorted(tuple(sorted(piece)) for piece in found))
