"""Where a kernel is so: its truth on all cells of its lot.

A kernel is told here without not, and with its forms opened: ("form", LETTER, (POINTS,
TRUTHS)). Of a form of x just its own ends are turns, of a form of y just its own ends are
sections: its truth changes nowhere else.
"""

from twoletters.chains import as_constants
from twoletters.columns import Column, column_point, index_of_column
from twoletters.formwork import needed
from twoletters.forms import RELATIONS
from twoletters.lots import Lot
from twoletters.placework import column_at
from twoletters.points import compare, in_order, merged
from twoletters.wholes import sign_of

ALWAYS = ((), (True,))


def so_by_sides(sides, ends, truths):
    """The truth of a form where a number is on these sides of all ends."""
    for k, end in enumerate(ends):
        if sides[end] <= 0:
            return truths[2 * k + (1 if sides[end] == 0 else 0)]
    return truths[-1]


def is_so(code, signs, x_sides, y_sides):
    """The truth of a coded kernel, the signs of its POLYs and the sides of its ends being told."""
    word = code[0]
    if word == "sign":
        return signs[code[1]] in code[2]
    if word == "not":
        return not is_so(code[1], signs, x_sides, y_sides)
    if word == "both":
        return is_so(code[1], signs, x_sides, y_sides) and is_so(code[2], signs, x_sides, y_sides)
    if word == "either":
        return is_so(code[1], signs, x_sides, y_sides) or is_so(code[2], signs, x_sides, y_sides)
    if word == "x":
        return so_by_sides(x_sides, code[1], code[2])
    if word == "y":
        return so_by_sides(y_sides, code[1], code[2])
    return word == "true"


def without_doubles(points):
    """Ascending points, each once; told as shortly as it is known."""
    found = []
    for point in points:
        if not found or compare(found[-1], point) != 0:
            found.append(point)
        elif len(point.half) < len(found[-1].half):
            found[-1] = point
    return found


class Field:
    """A kernel, asked for just where a form of x, the guard, is so."""

    def __init__(self, kernel, guard):
        self.index_of = {}
        self.x_ends = []
        self.y_ends = []
        self.code = self.coded(kernel)
        self.guard = self.coded(("form", "x", guard))
        self.polys = list(self.index_of)
        self.lot = None
        self.turns = []
        self.x_at = []

    def coded(self, kernel):
        """The kernel with indexes in the place of POLYs and ends."""
        word = kernel[0]
        if word in ("true", "false"):
            return kernel
        if word in ("both", "either"):
            return (word, self.coded(kernel[1]), self.coded(kernel[2]))
        if word == "form":
            points, truths = kernel[2]
            ends = self.x_ends if kernel[1] == "x" else self.y_ends
            first = len(ends)
            ends.extend(points)
            return (kernel[1], tuple(range(first, len(ends))), truths)
        return ("sign", self.index_of.setdefault(kernel[1], len(self.index_of)), RELATIONS[word])

    def lay_out(self):
        """Find the turns."""
        self.lot = Lot(self.polys, self.y_ends)
        self.turns = without_doubles(merged(self.lot.find_turns(), in_order(list(self.x_ends))))
        self.x_at = [index_of_column(self.turns, end) for end in self.x_ends]

    def truths_over(self, k):
        """The column k, None where the guard is not so, and the truths on all its levels."""
        x_sides = [sign_of(k - at) for at in self.x_at]
        if not is_so(self.guard, (), x_sides, ()):
            return None, (False,)
        column = Column(self.lot, column_point(self.turns, k))
        lines = column.line_levels()
        found = []
        for level, signs in enumerate(column.signs()):
            y_sides = [sign_of(level - line) for line in lines]
            found.append(is_so(self.code, signs, x_sides, y_sides))
        return column, tuple(found)

    def shadow(self):
        """The form of x, its points and truths, that is so where the kernel is with some y."""
        self.lay_out()
        truths = [any(self.truths_over(k)[1]) for k in range(2 * len(self.turns) + 1)]
        return needed(self.turns, truths)

    def some_place(self):
        """Any PLACE at which the kernel is so; None. Columns with fractions are tried first."""
        self.lay_out()
        many = 2 * len(self.turns) + 1
        for k in list(range(0, many, 2)) + list(range(1, many, 2)):
            column, truths = self.truths_over(k)
            if True in truths:
                return (column.point.number, self.y_on(column, truths.index(True)))
        return None

    def y_on(self, column, level):
        """What tells the y of a PLACE on a level."""
        if level % 2 == 0:
            return column.fraction_on(level)
        told = column.told_sections(column.signs())[level // 2]
        if told is not None:
            return (self.polys[told[0]], told[1])
        end = self.y_ends[column.line_levels().index(level)]
        return end.exact or (as_constants(end.row), end.index)

    def is_so_at(self, place):
        """Whether the kernel is so at an opened PLACE."""
        column, level = column_at(self.polys, self.y_ends, place)
        x_sides = [compare(place[0], end) for end in self.x_ends]
        y_sides = [sign_of(level - line) for line in column.line_levels()]
        return is_so(self.code, column.signs()[level], x_sides, y_sides)
