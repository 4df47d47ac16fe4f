"""The roots of a POLY over a NUMBER once more: Sturm's way, all numbers over it being kept as rests by a row of it."""

from fractions import Fraction

from tests import naive
from twoletters.numbers import sign_in

TINY = Fraction(1, 10 ** 40)
FACTORS = ((-2, 0, 1), (-3, 0, 1), (-1, 0, 2))


def roots_over(poly, number):
    """Narrow stretches, each of which has one real root over the number; None if the POLY is nought there."""
    if isinstance(number[0], int):
        row = naive.prime(naive.cut(naive.at_x(poly, Fraction(*number))))
        return [(low - TINY, high + TINY) for low, high in naive.stretches(row, 140)] if row else None
    # A shorter row with this root makes shorter rests.
    row = next((each for each in FACTORS if sign_in(each, number) == 0), number[0])
    poly = cut_at([naive.rest(each, row) for each in poly], number)
    if len(poly) < 2:
        return [] if poly else None
    chain = [poly, cut_at(derived(poly), number)]
    while len(chain[-1]) > 1:
        rest = remainder(chain[-2], chain[-1], row, number)
        if not rest:
            break
        chain.append([tuple(-n for n in each) for each in rest])
    return halved(chain, number)


def derived(poly):
    return [tuple(k * n for n in each) for k, each in enumerate(poly)][1:]


def sign_over(rest, number):
    """The sign of a row with fractions."""
    found = sign_in(naive.prime(rest), number)
    return found * naive.sign(rest[-1]) if rest else 0


def cut_at(poly, number):
    poly = list(poly)
    while poly and sign_over(poly[-1], number) == 0:
        poly.pop()
    return poly


def remainder(one, other, row, number):
    """The rest in y, times some number above 0."""
    head = other[-1]
    square = naive.product(head, head)
    while len(one) >= len(other):
        down = naive.product(head, one[-1])
        at = len(one) - len(other)
        one = [naive.rest(naive.product(square, each), row) for each in one]
        for k, each in enumerate(other):
            taken = tuple(-n for n in naive.product(down, each))
            one[at + k] = naive.rest(naive.total(one[at + k], taken), row)
        one = cut_at(one[:-1], number)
    most = max((abs(n) for each in one for n in each), default=1)
    return [tuple(n / most for n in each) for each in one]


def sign_behind(poly, y, number):
    """The sign directly above a fraction y."""
    while True:
        value = ()
        for each in reversed(poly):
            value = naive.total(naive.product(value, (y,)), each)
        found = sign_over(value, number)
        if found:
            return found
        poly = derived(poly)


def changes(chain, y, number):
    return naive.changes([sign_behind(poly, y, number) for poly in chain])


def halved(chain, number):
    found = []
    waiting = [(Fraction(-2 ** 12), Fraction(2 ** 12))]
    while waiting:
        low, high = waiting.pop()
        many = changes(chain, low, number) - changes(chain, high, number)
        if many and high - low < Fraction(1, 2 ** 20):
            found.append((low, high))
        elif many:
            middle = (low + high) / 2
            waiting += [(middle, high), (low, middle)]
    return found
