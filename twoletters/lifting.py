"""The roots of a plain row that are fractions.

A root n / m has m dividing the head. By a prime number that does not divide the head
it is told by its rest; if the row has that rest as a root just once, no other fraction
has it, and the rest by ever higher powers of the prime number is found from it. The
head times n / m is a whole number that is not too great: so it is its rest by a power
that is great enough.
"""

from twoletters.rowwork import row_derivative, row_quotient, scaled_value
from twoletters.wholes import fraction_of

TRIES = 4


def rest_at(row, n, modulus):
    """The rest of the row's value at n."""
    total = 0
    for number in reversed(row):
        total = (total * n + number) % modulus
    return total


def is_prime(n):
    k = 2
    while k * k <= n:
        if n % k == 0:
            return False
        k += 1
    return True


def rests_by(row, slope, prime):
    """The roots of the row by a prime number; None if one of them is there twice."""
    small = [number % prime for number in row]
    found = [n for n in range(prime) if rest_at(small, n, prime) == 0]
    if any([rest_at(slope, n, prime) == 0 for n in found]):
        return None
    return found


def best_rests(row, slope):
    """A prime number by which the row has few roots, each once, and these roots."""
    best = None
    tries = 0
    prime = 6
    while best is None or tries < TRIES:
        prime += 1
        if not is_prime(prime) or row[-1] % prime == 0:
            continue
        tries += 1
        found = rests_by(row, slope, prime)
        if found is not None and (best is None or len(found) < len(best[1])):
            best = (prime, found)
            if not found:
                break
    return best


def turned_by(n, prime):
    """The whole number whose product with n has the rest 1 by a prime number."""
    for k in range(1, prime):
        if n * k % prime == 1:
            return k
    return 0


def lifted(row, slope, prime, n, above):
    """The one root by a power of the prime number, which is above a number, that is n by the prime number itself."""
    modulus = prime
    turned = turned_by(rest_at(slope, n, prime), prime)
    while modulus <= above:
        modulus *= modulus
        n = (n - rest_at(row, n, modulus) * turned) % modulus
        turned = turned * (2 - rest_at(slope, n, modulus) * turned) % modulus
    return n, modulus


def fraction_roots(row):
    """The list of all roots of a plain row of degree 1 at least that are fractions, in any order."""
    if len(row) == 2:
        return [fraction_of(-row[0], row[1])]
    slope = row_derivative(row)
    prime, rests = best_rests(row, slope)
    above = 2 * (row[-1] + max([abs(number) for number in row]))
    found = []
    for rest in rests:
        n, modulus = lifted(row, slope, prime, rest, above)
        top = row[-1] * n % modulus
        if top > modulus // 2:
            top -= modulus
        root = fraction_of(top, row[-1])
        if scaled_value(row, root[0], root[1]) == 0:
            found.append(root)
    return found


def without_roots(row, roots):
    """The row over the rows of the first degree that have these fractions as roots."""
    for n, m in roots:
        row = row_quotient(row, (-n, m))
    return row
