"""Sheets that are open: the truths of kernels by the levels that they tell."""

from itertools import combinations

from twoletters.chains import poly_resultant
from twoletters.polywork import poly_derived
from twoletters.wholes import sign_of


class Sheet:
    """The ends of a sheet as points, and for each column its point and the signs of the lot on all levels."""

    def __init__(self, ends, strips):
        self.ends = ends
        self.strips = strips

    def truths_of(self, case):
        """The truths of a kernel of the sheet's lot, for each column, on all levels."""
        return [case.truths_by(point, signs) for point, signs in self.strips]


def sign_of_product(product, row_signs, poly_signs):
    """The sign of a POLY of the lot, those of the ROWS and the POLYS being told."""
    whole, powers, others = product
    found = sign_of(whole)
    for sign, power in list(zip(row_signs, powers)) + list(zip(poly_signs, others)):
        if power:
            found *= sign if power & 1 else sign * sign
    return found


def lot_signs(products, row_signs, levels):
    """For each level the tuple of the signs of the lot, those of the POLYS on all levels being told."""
    found = []
    for poly_signs in levels:
        found.append(tuple([sign_of_product(product, row_signs, poly_signs) for product in products]))
    return found


def asked_rows(rows, polys):
    """The rows all roots of which are asked for among the ends; last rows, discriminants, resultants, too."""
    curves = list(polys)
    found = list(rows) + [poly[-1] for poly in curves]
    found = found + [poly_resultant(poly, poly_derived(poly)) for poly in curves if len(poly) > 2]
    return found + [poly_resultant(one, other) for one, other in combinations(curves, 2)]
