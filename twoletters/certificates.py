"""Claims, each with a paper that the checker accepts."""

from twoletters.cases import Case
from twoletters.formwork import form_told
from twoletters.kernels import TRUE, form_in, place_of
from twoletters.papers import alike_everywhere, kernel_by, some_place_in, truth_of
from twoletters.pins import pin_at
from twoletters.sayings import check_saying, check_small_polys
from twoletters.sheetmaking import Maker, made_sheet
from twoletters.truths import check_both, check_form_of, check_sentence


def certify_truth(sentence):
    """That a sentence is true, or that it is false."""
    check_sentence(sentence)
    maker = Maker()
    is_so = truth_of(kernel_by(maker, sentence)) == TRUE
    return (("true" if is_so else "false", sentence), maker.take_sheets())


def certify_form(saying, letter):
    """That a saying of one letter has a form."""
    check_form_of(saying, letter)
    maker = Maker()
    points, truths = form_in(kernel_by(maker, saying), letter)
    return (("form", saying, letter, form_told(points, truths)), maker.take_sheets())


def certify_some(saying):
    """That a saying is so at some place, or that it is so at none."""
    check_saying(saying)
    maker = Maker()
    kernel = kernel_by(maker, saying)
    sheets = maker.take_sheets()
    place = place_of(kernel)
    if place is not None:
        return (("some", saying), (pin_at(place, Case(kernel).lot), sheets))
    kernel_by(maker, some_place_in(saying))
    return (("none", saying), maker.take_sheets())


def certify_alike(saying, other):
    """That two sayings are so at the same places, or that they are not."""
    check_both(saying, other)
    maker = Maker()
    one = kernel_by(maker, saying)
    sheets = maker.take_sheets()
    two = kernel_by(maker, other)
    other_sheets = maker.take_sheets()
    place = place_of(("either", ("both", one, ("not", two)), ("both", ("not", one), two)))
    if place is not None:
        pin = pin_at(place, Case(("both", one, two)).lot)
        return (("unlike", saying, other), (pin, sheets, other_sheets))
    kernel_by(maker, alike_everywhere(saying, other))
    return (("alike", saying, other), maker.take_sheets())


def sheet_of(polys):
    """Any sheet for some POLYs."""
    check_small_polys(polys)
    return made_sheet(polys)[0]
