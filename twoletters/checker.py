"""Papers looked at: whether they prove what is claimed."""

from twoletters.cases import Case
from twoletters.forms import do_fit, is_form
from twoletters.formwork import form_told
from twoletters.kernels import FALSE, TRUE, form_in
from twoletters.papers import alike_everywhere, kernel_by, some_place_in, truth_of
from twoletters.pins import opened_pin, truth_at_pin
from twoletters.sayings import check_small_polys, is_letter, is_saying
from twoletters.saywork import OTHER, free_in
from twoletters.sheetchecking import Taker, opened_sheet

SIZES = {"true": 2, "false": 2, "form": 4, "some": 2, "none": 2, "alike": 3, "unlike": 3}


def is_sheet(polys, value):
    """Whether a value, whatever it is, is a sheet for some POLYs."""
    check_small_polys(polys)
    return opened_sheet(polys, value) is not None


def kernel_told(saying, sheets):
    """The kernel of a saying, told by just these sheets; None if they do not tell it."""
    taker = Taker(sheets)
    kernel = kernel_by(taker, saying)
    return kernel if taker.is_done() else None


def truth_told(sentence, sheets):
    """("true",) or ("false",) for a sentence, told by just these sheets; None if they do not tell it."""
    kernel = kernel_told(sentence, sheets)
    return None if kernel is None else truth_of(kernel)


def truth_pinned(saying, pin, sheets):
    """Whether a saying is so at a pin; None if its kernel is not told there."""
    kernel = kernel_told(saying, sheets)
    return None if kernel is None else truth_at_pin(Case(kernel), pin)


def accepts_form(saying, letter, form, paper):
    if not is_letter(letter) or OTHER[letter] in free_in(saying) or not is_form(form):
        return False
    kernel = kernel_told(saying, paper)
    if kernel is None:
        return False
    points, truths = form_in(kernel, letter)
    return do_fit(form_told(points, truths), form)


def accepts_some(saying, paper):
    if not isinstance(paper, tuple) or len(paper) != 2:
        return False
    pin = opened_pin(paper[0])
    return pin is not None and truth_pinned(saying, pin, paper[1]) is True


def accepts_unlike(saying, other, paper):
    if not is_saying(other) or not isinstance(paper, tuple) or len(paper) != 3:
        return False
    pin = opened_pin(paper[0])
    if pin is None:
        return False
    truths = [truth_pinned(saying, pin, paper[1]), truth_pinned(other, pin, paper[2])]
    return True in truths and False in truths


def accepts(claim, paper):
    """Whether a paper proves a claim, whatever both are."""
    if not isinstance(claim, tuple) or not claim or not isinstance(claim[0], str):
        return False
    word = claim[0]
    if SIZES.get(word) != len(claim) or not is_saying(claim[1]):
        return False
    if word in ("true", "false"):
        return not free_in(claim[1]) and truth_told(claim[1], paper) == (word,)
    if word == "form":
        return accepts_form(claim[1], claim[2], claim[3], paper)
    if word == "some":
        return accepts_some(claim[1], paper)
    if word == "none":
        return truth_told(some_place_in(claim[1]), paper) == FALSE
    if word == "alike":
        return is_saying(claim[2]) and truth_told(alike_everywhere(claim[1], claim[2]), paper) == TRUE
    return accepts_unlike(claim[1], claim[2], paper)
