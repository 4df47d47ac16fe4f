"""Kernels told by sheets.

A source tells the sheets in their order: one that makes them, or one that takes those of
a paper.
"""

from twoletters.cases import Case
from twoletters.formwork import needed
from twoletters.kernels import form_kernel, led_away_alone, smoothed
from twoletters.saywork import OTHER, says_exchanged


def led_away_by(source, word, letter, kernel):
    """The kernel of all or some of a kernel; None if the sheet for it is missing."""
    alone = led_away_alone(word, letter, kernel)
    if alone is not None:
        return alone
    case = Case(says_exchanged(kernel) if letter == "x" else kernel)
    sheet = source.sheet_for(case.lot)
    if sheet is None:
        return None
    truths = [all(each) if word == "all" else any(each) for each in sheet.truths_of(case)]
    return form_kernel(OTHER[letter], needed(sheet.ends, truths))


def kernel_by(source, saying):
    """The kernel of a saying, told by the sheets of a source; None if these do not tell it."""
    word = saying[0]
    if word in ("all", "some"):
        kernel = kernel_by(source, saying[2])
        return None if kernel is None else led_away_by(source, word, saying[1], kernel)
    if word not in ("not", "both", "either"):
        return saying
    parts = []
    for part in saying[1:]:
        kernel = kernel_by(source, part)
        if kernel is None:
            return None
        parts.append(kernel)
    return (word,) + tuple(parts)


def some_place_in(saying):
    """The sentence that a saying is so at some place."""
    return ("some", "x", ("some", "y", saying))


def alike_everywhere(saying, other):
    """The sentence that two sayings are so at the same places."""
    neither = ("both", ("not", saying), ("not", other))
    return ("all", "x", ("all", "y", ("either", ("both", saying, other), neither)))


def truth_of(kernel):
    """("true",) or ("false",) for a kernel without free letters."""
    return smoothed(kernel, False)
