"""Sheets, claims and papers once more, by the words of [36] to [39], with the functions of the interface alone."""

from itertools import combinations

from tests import naive, naive_kernel
from twoletters.forms import do_fit, is_form, made_form
from twoletters.numbers import is_number, order, sign_in
from twoletters.over import degree_at, many_roots, roots_between
from twoletters.places import sign_at
from twoletters.polys import derived, is_poly, poly_product, resultant
from twoletters.roots import count_roots
from twoletters.rows import is_row
from twoletters.sayings import free_letters, is_saying

ONE = ((1,),)


def is_whole(value):
    return isinstance(value, int) and not isinstance(value, bool)


def is_fraction(value):
    return is_number(value) and is_whole(value[0])


def is_list_of(value, test):
    return isinstance(value, tuple) and all(test(each) for each in value)


def are_powers(value, many):
    return is_list_of(value, lambda each: is_whole(each) and 0 <= each <= 8) and len(value) == many


def is_ascending(value):
    return all(order(one, other) < 0 for one, other in zip(value, value[1:]))


def whole_product(product, rows, polys):
    whole, powers, others = product
    found = ((whole,),) if whole else ()
    for factor, many in list(zip([(row,) for row in rows], powers)) + list(zip(polys, others)):
        for _ in range(many):
            found = naive.poly_product(found, factor)
    return found


def is_product(value, poly, rows, polys):
    if not isinstance(value, tuple) or len(value) != 3 or not is_whole(value[0]):
        return False
    if not are_powers(value[1], len(rows)) or not are_powers(value[2], len(polys)):
        return False
    return whole_product(value, rows, polys) == poly


def asked(rows, polys):
    found = list(rows) + [poly[-1] for poly in polys]
    found += [resultant(poly, derived(poly)) for poly in polys if len(poly) > 2]
    return found + [resultant(one, other) for one, other in combinations(polys, 2)]


def in_turn(ends, splits):
    found = [splits[0]]
    for end, split in zip(ends, splits[1:]):
        found += [end, split]
    return found


def many_between(poly, x, low, high):
    return roots_between(poly, x, low, high) - (sign_at(poly, (x, high)) == 0)


def is_stack(fractions, polys, x):
    if not is_list_of(fractions, is_fraction) or not fractions or not is_ascending(fractions):
        return False
    product = ONE
    for poly in polys:
        product = poly_product(product, poly)
    if degree_at(product, x) is None or any(sign_at(product, (x, y)) == 0 for y in fractions):
        return False
    gaps = [many_between(product, x, low, high) for low, high in zip(fractions, fractions[1:])]
    return all(many == 1 for many in gaps) and many_roots(product, x) == len(gaps)


def is_sheet(lot, value):
    if not isinstance(value, tuple) or len(value) != 6:
        return False
    rows, polys, products, ends, splits, stacks = value
    if not is_list_of(rows, lambda row: is_row(row) and len(row) > 1) or not is_list_of(polys, lambda poly: is_poly(poly) and len(poly) > 1):
        return False
    if not isinstance(products, tuple) or len(products) != len(lot):
        return False
    if not all(is_product(each, poly, rows, polys) for each, poly in zip(products, lot)):
        return False
    if not is_list_of(ends, is_number) or not is_ascending(ends):
        return False
    if () in asked(rows, polys):
        return False
    for row in asked(rows, polys):
        if sum(sign_in(row, end) == 0 for end in ends) != count_roots(row, None, None):
            return False
    if not is_list_of(splits, is_fraction) or len(splits) != len(ends) + 1 or not is_ascending(in_turn(ends, splits)):
        return False
    if not isinstance(stacks, tuple) or len(stacks) != 2 * len(ends) + 1:
        return False
    return all(is_stack(fractions, polys, x) for x, fractions in zip(in_turn(ends, splits), stacks))


def levels(lot, sheet):
    """For each column its x, and the signs of the lot on all levels."""
    rows, polys, products, ends, splits, stacks = sheet
    found = []
    for x, fractions in zip(in_turn(ends, splits), stacks):
        signs = []
        for k, y in enumerate(fractions):
            if k:
                low = fractions[k - 1]
                signs.append([0 if many_between(poly, x, low, y) else sign_at(poly, (x, low)) for poly in polys])
            signs.append([sign_at(poly, (x, y)) for poly in polys])
        row_signs = [sign_in(row, x) for row in rows]
        found.append((x, [tuple(sign_told(product, row_signs, here) for product in products) for here in signs]))
    return found


def sign_told(product, row_signs, signs):
    found = naive.sign(product[0])
    for sign, many in list(zip(row_signs, product[1])) + list(zip(signs, product[2])):
        found *= sign ** many
    return found


def shadow(kernel, letter, is_all, sheet):
    if letter == "x":
        kernel = naive_kernel.swapped(kernel)
    lot = naive_kernel.lot_of(kernel)
    if not is_sheet(lot, sheet):
        return None
    truths = []
    for x, signs in levels(lot, sheet):
        each = [naive_kernel.truth_on(kernel, lot, x, signs, level) for level in range(len(signs))]
        truths.append(all(each) if is_all else any(each))
    return made_form(sheet[3], tuple(truths))


def kernel_by(saying, sheets):
    """The kernel, and the sheets that are left; None if they do not tell it."""
    word = saying[0]
    if word in ("not", "both", "either"):
        parts = []
        for part in saying[1:]:
            found = kernel_by(part, sheets)
            if found is None:
                return None
            parts.append(found[0])
            sheets = found[1]
        return (word, *parts), sheets
    if word not in ("all", "some"):
        return saying, sheets
    found = kernel_by(saying[2], sheets)
    if found is None:
        return None
    letter, is_all = saying[1], word == "all"
    kernel, sheets = found
    free = naive_kernel.free(kernel)
    if letter not in free:
        return kernel, sheets
    if free == {letter}:
        truths = naive_kernel.form_of(kernel, letter)[1]
        return (("true",) if (all(truths) if is_all else any(truths)) else ("false",)), sheets
    form = shadow(kernel, letter, is_all, sheets[0]) if sheets else None
    if form is None:
        return None
    kernel = ("form", naive_kernel.OTHER[letter], form) if form[0] else ("true",) if form[1][0] else ("false",)
    return kernel, sheets[1:]


def kernel_told(saying, sheets):
    """The kernel by just these sheets; None."""
    if not isinstance(sheets, tuple):
        return None
    found = kernel_by(saying, sheets)
    return found[0] if found is not None and found[1] == () else None


def is_pin(value):
    if not isinstance(value, tuple) or len(value) != 2 or not is_number(value[0]):
        return False
    x, y = value
    if is_fraction(y):
        return True
    if not isinstance(y, tuple) or len(y) != 3 or not is_fraction(y[0]) or not is_fraction(y[1]) or not is_poly(y[2]):
        return False
    low, high, poly = y
    if order(low, high) >= 0 or degree_at(poly, x) is None or 0 in (sign_at(poly, (x, low)), sign_at(poly, (x, high))):
        return False
    return many_between(poly, x, low, high) == 1


def sign_pinned(poly, pin):
    x, y = pin
    if len(y) == 2:
        return sign_at(poly, (x, y))
    low, high, root = y
    if degree_at(poly, x) is None:
        return 0
    many = many_between(poly, x, low, high)
    if many == 1 and many_between(poly_product(poly, root), x, low, high) == 1:
        return 0
    return sign_at(poly, (x, low)) or None if many == 0 else None


def side_pinned(end, pin):
    """On which side of an end of a form of y the pin is; None."""
    x, y = pin
    if len(y) == 2:
        return order(y, end)
    low, high, _ = y
    if order(end, low) <= 0:
        return 1
    if order(end, high) >= 0:
        return -1
    poly = naive_kernel.end_poly(end, "y")
    return 0 if many_between(poly, x, low, high) == 1 and sign_pinned(poly, pin) == 0 else None


def truth_pinned(kernel, pin):
    """None if the kernel is not told."""
    if any(sign_pinned(poly, pin) is None for poly in naive_kernel.lot_of(kernel)):
        return None
    return truth_by(kernel, pin)


def truth_by(kernel, pin):
    word = kernel[0]
    if word in ("true", "false"):
        return word == "true"
    if word == "form":
        ends, truths = kernel[2]
        sides = [order(pin[0], end) if kernel[1] == "x" else side_pinned(end, pin) for end in ends]
        if None in sides:
            return None
        at = next((k for k, side in enumerate(sides) if side <= 0), None)
        return truths[-1] if at is None else truths[2 * at + (sides[at] == 0)]
    if word not in ("not", "both", "either"):
        return sign_pinned(kernel[1], pin) in naive_kernel.SIGNS[word]
    parts = [truth_by(part, pin) for part in kernel[1:]]
    if None in parts:
        return None
    return not parts[0] if word == "not" else all(parts) if word == "both" else any(parts)


def truth_told(sentence, sheets):
    kernel = kernel_told(sentence, sheets)
    return None if kernel is None else naive_kernel.form_of(kernel, "x") == ((), (True,))


def accepts(claim, paper):
    if not isinstance(claim, tuple) or not claim or not isinstance(claim[0], str):
        return False
    word, rest = claim[0], claim[1:]
    if word not in ("true", "false", "form", "some", "none", "alike", "unlike"):
        return False
    if len(rest) != {"form": 3, "alike": 2, "unlike": 2}.get(word, 1) or not is_saying(rest[0]):
        return False
    saying = rest[0]
    if word in ("true", "false"):
        return free_letters(saying) == () and truth_told(saying, paper) is (word == "true")
    if word == "form":
        if rest[1] not in ("x", "y") or set(free_letters(saying)) - {rest[1]} or not is_form(rest[2]):
            return False
        kernel = kernel_told(saying, paper)
        return kernel is not None and do_fit(naive_kernel.form_of(kernel, rest[1]), rest[2])
    if word == "some":
        if not isinstance(paper, tuple) or len(paper) != 2 or not is_pin(paper[0]):
            return False
        kernel = kernel_told(saying, paper[1])
        return kernel is not None and truth_pinned(kernel, paper[0]) is True
    if word == "none":
        return truth_told(("some", "x", ("some", "y", saying)), paper) is False
    if not is_saying(rest[1]):
        return False
    if word == "alike":
        neither = ("both", ("not", saying), ("not", rest[1]))
        return truth_told(("all", "x", ("all", "y", ("either", ("both", saying, rest[1]), neither))), paper) is True
    if not isinstance(paper, tuple) or len(paper) != 3 or not is_pin(paper[0]):
        return False
    kernels = [kernel_told(saying, paper[1]), kernel_told(rest[1], paper[2])]
    if None in kernels:
        return False
    truths = [truth_pinned(kernel, paper[0]) for kernel in kernels]
    return None not in truths and truths[0] is not truths[1]
