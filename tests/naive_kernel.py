"""Quantifiers led away once more, by the words of [27] and [28]: all cells of whole lots, nothing left out."""

from twoletters.cells import cell_of, cells_of, place_in, signs_on
from twoletters.forms import is_always, is_ever, is_so_of, made_form, opposite
from twoletters.polys import exchanged, is_poly

SIGNS = {"below": (-1,), "at": (0,), "above": (1,), "not below": (0, 1), "not at": (-1, 1), "not above": (-1, 0)}
OTHER = {"x": "y", "y": "x"}
ALWAYS = ((), (True,))


def letters_of(poly):
    return ("x",) * any(len(row) > 1 for row in poly) + ("y",) * (len(poly) > 1)


def free(kernel):
    word = kernel[0]
    if word in ("true", "false"):
        return set()
    if word == "form":
        return {kernel[1]}
    if word in ("not", "both", "either"):
        return set().union(*(free(part) for part in kernel[1:]))
    if word in ("all", "some"):
        return free(kernel[2]) - {kernel[1]}
    return set(letters_of(kernel[1]))


def swapped(kernel):
    if is_poly(kernel[-1]) and kernel[0] in SIGNS:
        return (kernel[0], exchanged(kernel[1]))
    if kernel[0] == "form":
        return ("form", OTHER[kernel[1]], kernel[2])
    return (kernel[0],) + tuple(swapped(part) for part in kernel[1:])


def end_poly(end, letter):
    row = (-end[0], end[1]) if isinstance(end[0], int) else end[0]
    if letter == "x":
        return (row,)
    return tuple((number,) if number else () for number in row)


def polys_of(kernel):
    word = kernel[0]
    if word == "form":
        return [end_poly(end, kernel[1]) for end in kernel[2][0]]
    if word in ("not", "both", "either"):
        return [poly for part in kernel[1:] for poly in polys_of(part)]
    return [kernel[1]] if word in SIGNS and letters_of(kernel[1]) else []


def lot_of(kernel):
    return tuple(dict.fromkeys(polys_of(kernel)))


def side_of(end, lot, signs, level):
    """On which side of a line y = END a level is, by counting."""
    k = lot.index(end_poly(end, "y"))
    index = 0 if isinstance(end[0], int) else end[1]
    many = sum(signs[at][k] == 0 for at in range(1, level, 2))
    if many > index:
        return 1
    return 0 if many == index and signs[level][k] == 0 else -1


def truth_on(kernel, lot, x, signs, level):
    word = kernel[0]
    if word == "not":
        return not truth_on(kernel[1], lot, x, signs, level)
    if word == "both":
        return truth_on(kernel[1], lot, x, signs, level) and truth_on(kernel[2], lot, x, signs, level)
    if word == "either":
        return truth_on(kernel[1], lot, x, signs, level) or truth_on(kernel[2], lot, x, signs, level)
    if word in ("true", "false"):
        return word == "true"
    if word == "form" and kernel[1] == "x":
        return is_so_of(kernel[2], x)
    if word == "form":
        ends, truths = kernel[2]
        for at, end in enumerate(ends):
            side = side_of(end, lot, signs, level)
            if side <= 0:
                return truths[2 * at + (side == 0)]
        return truths[-1]
    if not letters_of(kernel[1]):
        number = kernel[1][0][0] if kernel[1] else 0
        return (number > 0) - (number < 0) in SIGNS[word]
    return signs[level][lot.index(kernel[1])] in SIGNS[word]


def truths_of(kernel):
    """The ends of the cells of the kernel's lot, and the truths on all cells."""
    lot = lot_of(kernel)
    ends, stacks = cells_of(lot)
    return ends, [[truth_on(kernel, lot, x, signs, level) for level in range(len(signs))] for x, _, signs in stacks]


def shadow(kernel, letter, is_all):
    """The form of the other letter that is so where the kernel is with some, with every number for this one."""
    if letter == "x":
        kernel = swapped(kernel)
    ends, truths = truths_of(kernel)
    return made_form(ends, tuple(all(each) if is_all else any(each) for each in truths))


def form_of(kernel, letter):
    """The form of a kernel in which no other letter is free."""
    return shadow(kernel, OTHER[letter], False)


def kernel_of(saying):
    word = saying[0]
    if word in ("not", "both", "either"):
        return (word,) + tuple(kernel_of(part) for part in saying[1:])
    if word not in ("all", "some"):
        return saying
    letter, kernel = saying[1], kernel_of(saying[2])
    if letter not in free(kernel):
        return kernel
    is_all = word == "all"
    if free(kernel) == {letter}:
        form = form_of(kernel, letter)
        return ("true",) if (is_always(form) if is_all else is_ever(form)) else ("false",)
    form = shadow(kernel, letter, is_all)
    if not form[0]:
        return ("true",) if form[1][0] else ("false",)
    return ("form", OTHER[letter], form)


def truth_at(kernel, place):
    lot = lot_of(kernel)
    column, level = cell_of(lot, place)
    signs = [signs_on(lot, (column, at)) for at in range(level + 1)]
    return truth_on(kernel, lot, place[0], signs, level)
