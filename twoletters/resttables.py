"""Tables of signs without any root (Cohen, Hormander), for two rows at a time.

The table of rows p and q, p being no shorter, comes of three tables: that of q and the
derivative of p, which puts the points in order at which one of these is 0; that of q and
the rest of p by q, which has the signs of p where q is 0; and likewise that of the
derivative and the rest of p by it. Which of two points of two rows is the lower one is
all that has to be known to put those of several rows in order.
"""

from twoletters.rowwork import row_derivative, row_prime, row_rest
from twoletters.wholes import sign_of

NUMBER = (1,)


def head_sign(row):
    return sign_of(row[-1]) if row else 0


def named(row):
    """What stands in tables for a row: its prime part, or 1 for nought and numbers."""
    return row_prime(row) if len(row) > 1 else NUMBER


class RestTables:
    """Tables of two rows, each one made once: lists of pairs of signs, stretches and points in turn."""

    def __init__(self):
        self.known = {}

    def columns(self, one, other):
        """The table of any two rows, but that noughts count as numbers: they are no ends."""
        first, second = named(one), named(other)
        if (len(first), first) < (len(second), second):
            return [(sign, before) for before, sign in self.columns(other, one)]
        if first == NUMBER:
            return [(head_sign(one), head_sign(other))]
        if (first, second) not in self.known:
            self.known[first, second] = self.made(first, second)
        up, down = head_sign(one), head_sign(other)
        return [(up * sign, down * behind) for sign, behind in self.known[first, second]]

    def marks(self, row, by):
        """The signs of a row at the points at which another one is 0, from below: those of its rest."""
        if len(by) < 2:
            return []
        return [sign for sign_by, sign in self.columns(by, row_rest(row, by))[1::2] if sign_by == 0]

    def signs_on(self, base, row, other):
        """The signs of the row at the points of BASE, the table of the other row and the row's derivative."""
        marks = self.marks(row, other)
        slope_marks = self.marks(row, row_derivative(row))
        at = slope_at = 0
        found = []
        for sign, slope_sign in base[1::2]:
            found.append(marks[at] if sign == 0 else slope_marks[slope_at])
            if sign == 0:
                at += 1
            if slope_sign == 0:
                slope_at += 1
        return found

    def made(self, row, other):
        """The table of a row of degree 1 at least and one that is no longer, both with heads above 0."""
        base = self.columns(other, row_derivative(row))
        # Far out the sign is that of the head.
        signs = self.signs_on(base, row, other) + [1]
        found = [(1 if len(row) % 2 else -1, base[0][0])]
        for k, sign in enumerate(signs):
            last, beside = found[-1]
            if sign == -last:
                found.append((0, beside))
                found.append((sign, beside))
            if 2 * k + 1 < len(base):
                # If the row is 0 here, it has behind this point the sign that it has at the next one.
                found.append((sign, base[2 * k + 1][0]))
                found.append((sign or signs[k + 1], base[2 * k + 2][0]))
        return without_needless(found)


def without_needless(columns):
    """The table without the points at which neither row is 0."""
    found = columns[:1]
    for k in range(1, len(columns), 2):
        if 0 in columns[k]:
            found = found + columns[k:k + 2]
    return found


def unlike(rows):
    """What stands in tables for the rows of degree 1 at least, each once."""
    found = {}
    for row in rows:
        if len(row) > 1:
            found[row_prime(row)] = True
    return list(found)


def places_of(columns, side):
    """The indexes of the columns in which one of both rows is 0."""
    return [place for place, signs in enumerate(columns) if signs[side] == 0]


def with_points(tables, names, points, index):
    """Ascending points, each a dict from rows (by index) to their roots (by index), with those of one row more."""
    pairs = [tables.columns(names[index], name) for name in names[:index]]
    own = [places_of(columns, 0) for columns in pairs]
    others = [places_of(columns, 1) for columns in pairs]
    many = len(places_of(tables.columns(names[index], NUMBER), 0))
    found = []
    root = 0
    for point in points:
        beside = min(list(point))
        place = others[beside][point[beside]]
        while root < many and own[beside][root] < place:
            found.append({index: root})
            root += 1
        if root < many and own[beside][root] == place:
            found.append({**point, index: root})
            root += 1
        else:
            found.append(point)
    return found + [{index: k} for k in range(root, many)]


def signs_along(tables, points, row, index):
    """The signs of a row in all columns, in order; INDEX is that of its name, None for nought and numbers."""
    if index is None:
        return [head_sign(row)] * (2 * len(points) + 1)
    gaps = [sign for sign, beside in tables.columns(row, NUMBER)[::2]]
    at = 0
    found = [gaps[0]]
    for point in points:
        is_here = index in point
        if is_here:
            at += 1
        found.append(0 if is_here else gaps[at])
        found.append(gaps[at])
    return found


def signs_without_roots(rows):
    """The columns of the table of any rows."""
    names = unlike(rows)
    tables = RestTables()
    points = []
    for index in range(len(names)):
        points = with_points(tables, names, points, index)
    listed = []
    for row in rows:
        listed.append(signs_along(tables, points, row, names.index(row_prime(row)) if len(row) > 1 else None))
    return tuple([tuple([signs[k] for signs in listed]) for k in range(2 * len(points) + 1)])
