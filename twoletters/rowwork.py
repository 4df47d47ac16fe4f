"""Rows reckoned with: sums, products, rests, values. Nothing is checked here."""

from itertools import accumulate
from math import gcd

from twoletters.wholes import fraction_of, power, shared_by, sign_of

SHORT = 6


def trimmed(numbers):
    """The row of the numbers: without the noughts at their end."""
    last = len(numbers)
    while last and numbers[last - 1] == 0:
        last -= 1
    return tuple(numbers[:last])


def row_sum(row, other):
    if len(row) < len(other):
        row, other = other, row
    found = list(row)
    for k, number in enumerate(other):
        found[k] += number
    return trimmed(found)


def row_scaled(row, whole):
    """The row times a whole number."""
    if whole == 0:
        return ()
    return tuple([whole * number for number in row])


def row_divided(row, whole):
    """The row over a whole number that divides each of its numbers."""
    return tuple([number // whole for number in row])


def row_less(row, other):
    return row_sum(row, row_scaled(other, -1))


def width_of(row):
    """How many binary digits the longest number of the row has."""
    return max([number.bit_length() for number in row], default=0)


def packed(row, bits):
    """The value of the row at 2 ** bits."""
    total = 0
    for number in reversed(row):
        total = (total << bits) + number
    return total


def unpacked(value, bits):
    """The row with this value at 2 ** bits, its numbers being below 2 ** (bits - 1), from minus that one on."""
    half = 1 << (bits - 1)
    mask = (1 << bits) - 1
    found = []
    while value:
        number = ((value + half) & mask) - half
        found.append(number)
        value = (value - number) >> bits
    return tuple(found)


def row_times(row, other):
    if not row or not other:
        return ()
    if len(row) < len(other):
        row, other = other, row
    if len(other) > SHORT:
        # One product of long numbers is quicker than many products of short ones.
        bits = width_of(row) + width_of(other) + len(other).bit_length() + 2
        return unpacked(packed(row, bits) * packed(other, bits), bits)
    found = [0] * (len(row) + len(other) - 1)
    for k, number in enumerate(other):
        if number:
            for at, factor in enumerate(row):
                found[at + k] += factor * number
    return tuple(found)


def row_derivative(row):
    return tuple([k * number for k, number in enumerate(row)][1:])


def row_prime(row):
    """The prime part."""
    if not row:
        return ()
    shared = shared_by(row)
    if row[-1] < 0:
        shared = -shared
    return row if shared == 1 else row_divided(row, shared)


def scaled_value(row, n, m):
    """The row's value at n / m, times m as often as its degree."""
    total = 0
    factor = 1
    for number in reversed(row):
        total = total * n + number * factor
        factor *= m
    return total


def row_value(row, fraction):
    """The value, as a fraction."""
    if not row:
        return (0, 1)
    return fraction_of(scaled_value(row, fraction[0], fraction[1]), power(fraction[1], len(row) - 1))


def sign_at_fraction(row, fraction):
    return sign_of(scaled_value(row, fraction[0], fraction[1]))


def sign_at_binary(row, n, bits):
    """The sign at n / 2 ** bits."""
    total = 0
    shift = 0
    for number in reversed(row):
        total = total * n + (number << shift)
        shift += bits
    return sign_of(total)


def row_rest(row, by):
    """The rest of the row by another one, times some whole number above 0."""
    rest = list(row)
    head = by[-1]
    size = len(by)
    while len(rest) >= size:
        top = rest[-1]
        if top:
            shared = gcd(top, head)
            if head < 0:
                shared = -shared
            up = head // shared
            down = top // shared
            at = len(rest) - size
            rest = [up * number for number in rest]
            for k, number in enumerate(by):
                rest[at + k] -= down * number
        rest.pop()
    return trimmed(rest)


def row_quotient(row, by):
    """The row over another one, if that is a row of whole numbers; None otherwise."""
    if not row:
        return ()
    if len(row) < len(by):
        return None
    rest = list(row)
    head = by[-1]
    found = [0] * (len(row) - len(by) + 1)
    for at in reversed(range(len(found))):
        top = rest[at + len(by) - 1]
        part = top // head
        if part * head != top:
            return None
        found[at] = part
        if part:
            for k, number in enumerate(by):
                rest[at + k] -= part * number
    return None if any(rest) else tuple(found)


def row_put_in(row, other):
    """The row with the other one in the place of x."""
    found = ()
    for number in reversed(row):
        found = row_sum(row_times(found, other), (number,) if number else ())
    return found


def row_stepped(row):
    """The row with x + 1 in the place of x, as a list."""
    falling = list(reversed(row))
    found = []
    while falling:
        falling = list(accumulate(falling))
        found.append(falling.pop())
    return found


def row_mirrored(row):
    """The row with - x in the place of x."""
    return tuple([-number if k & 1 else number for k, number in enumerate(row)])


def row_widened(row, n, m):
    """The row with m x / n in the place of x, times n as often as its degree."""
    found = []
    up = 1
    for number in row:
        found.append(number * up)
        up *= m
    down = 1
    for k in reversed(range(len(row))):
        found[k] *= down
        down *= n
    return tuple(found)
