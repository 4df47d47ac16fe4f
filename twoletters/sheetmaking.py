"""Sheets made for lots."""

from twoletters.columns import Column, column_point
from twoletters.lots import Lot, finer, made_of
from twoletters.pieces_of_lots import lot_pieces, turn_points
from twoletters.rowwork import row_prime
from twoletters.sheets import Sheet, lot_signs


def rows_of(parts):
    """The unlike prime parts, of degree 1 at least, of what stands beside the pieces in the POLYs of a lot."""
    found = {}
    for row, powers in parts:
        if len(row) > 1:
            found[row_prime(row)] = True
    return list(found)


def product_of(part, rows, many):
    """WHOLE, POWERS and OTHERS for a POLY taken to pieces."""
    row, powers = part
    others = [0] * many
    for k, power in powers:
        others[k] = power
    prime = row_prime(row)
    beside = [1 if each == prime else 0 for each in rows]
    return (row[-1] // prime[-1] if row else 0, tuple(beside), tuple(others))


def fractions_on(column):
    """A fraction on each level that is no section."""
    return tuple([column.fraction_on(2 * k) for k in range(len(column.sections) + 1)])


def made_sheet(polys):
    """A sheet for a lot, as it is told, and open."""
    pieces = finer(lot_pieces(polys))
    parts = [made_of(poly, pieces) for poly in polys]
    rows = rows_of(parts)
    products = tuple([product_of(part, rows, len(pieces)) for part in parts])
    ends = turn_points(rows, pieces)
    lot = Lot(pieces, [])
    columns = [Column(lot, column_point(ends, k)) for k in range(2 * len(ends) + 1)]
    stacks = tuple([fractions_on(column) for column in columns])
    splits = tuple([column.point.number for column in columns[::2]])
    told = (tuple(rows), tuple(pieces), products, tuple([end.number for end in ends]), splits, stacks)
    opened = []
    for column in columns:
        row_signs = [column.point.sign(row) for row in rows]
        opened.append((column.point, lot_signs(products, row_signs, column.signs())))
    return told, Sheet(ends, opened)


class Maker:
    """Sheets that are made as they are asked for, each lot's own just once."""

    def __init__(self):
        self.sheets = []
        self.known = {}

    def sheet_for(self, lot):
        if lot not in self.known:
            self.known[lot] = made_sheet(lot)
        told, sheet = self.known[lot]
        self.sheets.append(told)
        return sheet

    def take_sheets(self):
        """All sheets since the last time."""
        found = tuple(self.sheets)
        self.sheets = []
        return found
