"""Roots held apart: the stretches of a plain row without roots that are fractions.

A stretch is (LOW, HIGH, BITS): what is above LOW / 2 ** BITS and below HIGH / 2 ** BITS.
A row that is put over the stretch from 0 to 1 has at most as many roots there as the row
turned round, one step on, has changes of signs; none for none, one for one (Descartes,
Vincent). By halving that comes to be of all stretches, as the row has each root once.
"""

from twoletters.rowwork import row_mirrored, row_stepped


def sign_changes(numbers):
    """How many changes of signs there are, noughts left out."""
    found = 0
    last = 0
    for number in numbers:
        if number:
            if last and (number > 0) != (last > 0):
                found += 1
            last = number
    return found


def reach_of(row):
    """Some k for which each root lies strictly between - 2 ** k and 2 ** k."""
    head = row[-1].bit_length()
    steps = []
    for k in range(1, len(row)):
        number = row[-1 - k]
        if number:
            steps.append(-((head - 1 - number.bit_length()) // k))
    return max(steps, default=0) + 1


def halved(row):
    """The row with x / 2 in the place of x, times 2 as often as its degree."""
    last = len(row) - 1
    return [number << (last - k) for k, number in enumerate(row)]


def upper_parts(row):
    """For each root between 0 and 1 a pair (K, MANY): it lies between K and K + 1, over 2 ** MANY; ascending."""
    found = []
    waiting = [(list(row), 0, 0)]
    while waiting:
        numbers, at, many = waiting.pop()
        changes = sign_changes(row_stepped(numbers[::-1]))
        if changes == 1:
            found.append((at, many))
        if changes > 1:
            lower = halved(numbers)
            waiting.append((row_stepped(lower), 2 * at + 1, many + 1))
            waiting.append((lower, 2 * at, many + 1))
    return found


def put_over(row, reach):
    """The row with 2 ** REACH x in the place of x, times a power of 2."""
    last = len(row) - 1
    if reach < 0:
        return [number << (-reach * (last - k)) for k, number in enumerate(row)]
    return [number << (reach * k) for k, number in enumerate(row)]


def upper_stretches(row, reach):
    """The stretches of the roots above 0."""
    found = []
    for at, many in upper_parts(put_over(row, reach)):
        up = max(0, reach - many)
        found.append((at << up, (at + 1) << up, max(0, many - reach)))
    return found


def stretches_of(row):
    """For each root, in order, a stretch that holds it alone and no end of which is a root.

    The row is plain, of degree 2 at least, and has no root that is a fraction. No
    stretch has 0 within, and each is a power of 2 wide.
    """
    reach = reach_of(row)
    lower = [(-high, -low, bits) for low, high, bits in upper_stretches(row_mirrored(row), reach)]
    return lower[::-1] + upper_stretches(row, reach)
