"""What is so: sentences decided, forms of sayings, places at which sayings are so or unlike."""

from twoletters.errors import InvalidLetter, InvalidSaying
from twoletters.fields import ALWAYS, Field
from twoletters.formwork import form_told
from twoletters.kernels import TRUE, form_in, kernel_of, place_of, smoothed
from twoletters.placework import checked_place
from twoletters.sayings import check_letter, check_saying
from twoletters.saywork import OTHER, free_in


def check_both(saying, other):
    check_saying(saying)
    check_saying(other)


def check_sentence(sentence):
    check_saying(sentence)
    if free_in(sentence):
        raise InvalidSaying(sentence)


def check_form_of(saying, letter):
    """A letter is refused, too, if the other one is free."""
    check_saying(saying)
    check_letter(letter)
    if OTHER[letter] in free_in(saying):
        raise InvalidLetter(letter)


def is_true(sentence):
    """Whether a sentence is so of all real numbers."""
    check_sentence(sentence)
    return smoothed(kernel_of(sentence), False) == TRUE


def form_of(saying, letter):
    """The form that is so of a number as the saying is with it for the letter."""
    check_form_of(saying, letter)
    points, truths = form_in(kernel_of(saying), letter)
    return form_told(points, truths)


def truth_at(saying, place):
    """Whether a saying is so at a PLACE."""
    check_saying(saying)
    found = checked_place(place)
    return Field(smoothed(kernel_of(saying), False), ALWAYS).is_so_at(found)


def some_place(saying):
    """Any PLACE at which a saying is so; None."""
    check_saying(saying)
    return place_of(kernel_of(saying))


def parting_place(saying, other):
    """Any PLACE at which just one of both is so; None."""
    check_both(saying, other)
    one, two = kernel_of(saying), kernel_of(other)
    return place_of(("either", ("both", one, ("not", two)), ("both", ("not", one), two)))


def are_alike(saying, other):
    """Whether two sayings are so at the same places."""
    return parting_place(saying, other) is None


def breaking_place(saying, other):
    """Any PLACE at which the first saying is so, the other one not; None."""
    check_both(saying, other)
    return place_of(("both", kernel_of(saying), ("not", kernel_of(other))))


def does_follow(saying, other):
    """Whether the other saying is so wherever the first one is."""
    return breaking_place(saying, other) is None
