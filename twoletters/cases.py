"""Kernels as they stand: their lots, and their truths where the signs of these are told.

The forms of a kernel are opened: ("form", LETTER, (POINTS, TRUTHS)).
"""

from twoletters.chains import as_constants
from twoletters.fields import is_so
from twoletters.forms import RELATIONS
from twoletters.points import compare
from twoletters.saywork import letters_of
from twoletters.wholes import is_fraction, sign_of


def end_poly(number, letter):
    """The POLY of one letter that stands for an end of a form."""
    row = (-number[0], number[1]) if is_fraction(number) else number[0]
    return (row,) if letter == "x" else as_constants(row)


class Case:
    """A kernel with indexes of its lot in the place of POLYs and ends."""

    def __init__(self, kernel):
        self.index_of = {}
        self.x_ends = []
        self.y_ends = []
        self.y_polys = []
        self.code = self.coded(kernel)
        self.lot = tuple(list(self.index_of))

    def index_in_lot(self, poly):
        return self.index_of.setdefault(poly, len(self.index_of))

    def coded(self, kernel):
        word = kernel[0]
        if word in ("true", "false"):
            return kernel
        if word == "not":
            return (word, self.coded(kernel[1]))
        if word in ("both", "either"):
            return (word, self.coded(kernel[1]), self.coded(kernel[2]))
        if word == "form":
            return self.coded_form(kernel[1], kernel[2])
        poly = kernel[1]
        if letters_of(poly):
            return ("sign", self.index_in_lot(poly), RELATIONS[word])
        is_always = sign_of(poly[0][0] if poly else 0) in RELATIONS[word]
        return ("true",) if is_always else ("false",)

    def coded_form(self, letter, form):
        points, truths = form
        ends = self.x_ends if letter == "x" else self.y_ends
        first = len(ends)
        for point in points:
            index = self.index_in_lot(end_poly(point.number, letter))
            ends.append(point)
            if letter == "y":
                self.y_polys.append(index)
        return (letter, tuple(range(first, len(ends))), truths)

    def y_levels(self, signs):
        """The levels of the ends of forms of y, all signs over some x being told: such an end is found by counting."""
        found = []
        for k, end in zip(self.y_polys, self.y_ends):
            index = 0 if is_fraction(end.number) else end.number[1]
            found.append([level for level in range(1, len(signs), 2) if signs[level][k] == 0][index])
        return found

    def x_sides(self, point):
        """- 1, 0 or 1 for each end of a form of x, as a point is below, at or above it."""
        return [compare(point, end) for end in self.x_ends]

    def truths_by(self, point, signs):
        """The truths on all levels over a point, the signs there being told."""
        x_sides = self.x_sides(point)
        y_levels = self.y_levels(signs)
        found = []
        for level, here in enumerate(signs):
            y_sides = [sign_of(level - each) for each in y_levels]
            found.append(is_so(self.code, here, x_sides, y_sides))
        return tuple(found)
