"""The same things once more, slowly and plainly, with fractions of Python's own: what the tests compare with."""

from fractions import Fraction
from math import gcd


def cut(numbers):
    numbers = list(numbers)
    while numbers and numbers[-1] == 0:
        numbers.pop()
    return tuple(numbers)


def value(row, x):
    return sum((number * Fraction(x) ** k for k, number in enumerate(row)), Fraction(0))


def product(one, other):
    found = [0] * (len(one) + len(other))
    for i, a in enumerate(one):
        for j, b in enumerate(other):
            found[i + j] += a * b
    return cut(found)


def total(one, other):
    longest = max(len(one), len(other))
    return cut([(one[k] if k < len(one) else 0) + (other[k] if k < len(other) else 0) for k in range(longest)])


def prime(row):
    """The multiple with whole numbers without a common divisor and a head above 0."""
    if not row:
        return ()
    many = 1
    for number in row:
        many = many * Fraction(number).denominator // gcd(many, Fraction(number).denominator)
    whole = [int(number * many) for number in row]
    shared = 0
    for number in whole:
        shared = gcd(shared, number)
    if whole[-1] < 0:
        shared = -shared
    return tuple(number // shared for number in whole)


def rest(row, by):
    row = [Fraction(number) for number in row]
    while len(row) >= len(by):
        factor = row[-1] / by[-1]
        for k in range(len(by)):
            row[len(row) - len(by) + k] -= factor * by[k]
        row.pop()
        row = list(cut(row)) if row and row[-1] == 0 else row
    return cut(row)


def divisor(one, other):
    while other:
        one, other = other, rest(one, other)
    return prime(one)


def slope(row):
    return cut([k * number for k, number in enumerate(row)][1:])


def sturm(row):
    """Sturm's rows of the row, divided by what it has in common with its derivative."""
    found = [tuple(Fraction(number) for number in row), slope(row)]
    while found[-1]:
        found.append(tuple(-number for number in rest(found[-2], found[-1])))
    return found[:-1]


def changes(signs):
    signs = [sign for sign in signs if sign]
    return sum(one != other for one, other in zip(signs, signs[1:]))


def sign(number):
    return (number > 0) - (number < 0)


def count(row, low, high):
    """How many unlike roots are above LOW and up to HIGH."""
    if len(row) < 2:
        return 0
    shared = divisor(row, slope(row))
    plain = list(row)
    quotient = []
    plain = [Fraction(number) for number in plain]
    while len(plain) >= len(shared):
        factor = plain[-1] / shared[-1]
        quotient.append(factor)
        for k in range(len(shared)):
            plain[len(plain) - len(shared) + k] -= factor * shared[k]
        plain.pop()
    rows = sturm(tuple(reversed(quotient)))
    return changes([sign(value(each, low)) for each in rows]) - changes([sign(value(each, high)) for each in rows])


def reach(row):
    return 1 + max(abs(Fraction(number, row[-1])) for number in row)


def stretches(row, bits=60):
    """For each unlike root a stretch up to 1 / 2 ** bits wide that has it above its lower end or at its upper end."""
    if len(row) < 2:
        return []
    found = []
    waiting = [(-reach(row), reach(row))]
    while waiting:
        low, high = waiting.pop()
        many = count(row, low, high)
        if many == 0:
            continue
        if many == 1 and (high - low) * 2 ** bits < 1:
            found.append((low, high))
            continue
        middle = (low + high) / 2
        waiting += [(middle, high), (low, middle)]
    return found


def determinant(rows):
    rows = [[Fraction(number) for number in row] for row in rows]
    found = Fraction(1)
    for k in range(len(rows)):
        at = next((i for i in range(k, len(rows)) if rows[i][k]), None)
        if at is None:
            return Fraction(0)
        if at != k:
            rows[at], rows[k] = rows[k], rows[at]
            found = -found
        found *= rows[k][k]
        for i in range(k + 1, len(rows)):
            factor = rows[i][k] / rows[k][k]
            if factor:
                rows[i] = [a - factor * b for a, b in zip(rows[i], rows[k])]
    return found


def sylvester(one, other):
    """The determinant of the resultant of two tuples of numbers, from the constant on."""
    n, m = len(one) - 1, len(other) - 1
    rows = [[0] * i + list(reversed(one)) + [0] * (m - 1 - i) for i in range(m)]
    rows += [[0] * i + list(reversed(other)) + [0] * (n - 1 - i) for i in range(n)]
    return determinant(rows)


def at_x(poly, x):
    """The values of all rows."""
    return tuple(value(row, x) for row in poly)


def poly_value(poly, x, y):
    return sum((value(row, x) * Fraction(y) ** k for k, row in enumerate(poly)), Fraction(0))


def poly_product(one, other):
    found = [()] * (len(one) + len(other))
    for i, a in enumerate(one):
        for j, b in enumerate(other):
            found[i + j] = total(found[i + j], product(a, b))
    return poly_cut(found)


def poly_total(one, other):
    longest = max(len(one), len(other))
    padded = [list(each) + [()] * (longest - len(each)) for each in (one, other)]
    return poly_cut([total(a, b) for a, b in zip(*padded)])


def poly_cut(rows):
    rows = list(rows)
    while rows and not rows[-1]:
        rows.pop()
    return tuple(rows)


def deep(many):
    found = ()
    for _ in range(many):
        found = (found,)
    return found
