"""Forms: what can be so of a number."""

from twoletters.errors import InvalidForm, InvalidRelation
from twoletters.formwork import are_truths, form_told, number_on, opened_ends, opened_form, together, truth_at
from twoletters.numbers import checked_number
from twoletters.points import compare
from twoletters.rows import check_row
from twoletters.tables import end_points, signs_at_points

RELATIONS = {
    "below": (-1,),
    "at": (0,),
    "above": (1,),
    "not below": (0, 1),
    "not at": (-1, 1),
    "not above": (-1, 0),
}


def is_form(value):
    """Whether a value, whatever it is, is a form."""
    return opened_form(value) is not None


def checked_form(form):
    """The points and the truths of a form."""
    found = opened_form(form)
    if found is None:
        raise InvalidForm(form)
    return found


def check_relation(relation):
    if not isinstance(relation, str) or relation not in RELATIONS:
        raise InvalidRelation(relation)


def form_of_row(row, relation):
    """The form that is so where the row's value is so related to 0."""
    check_row(row)
    check_relation(relation)
    points = end_points([row])
    signs = RELATIONS[relation]
    return form_told(points, [column[0] in signs for column in signs_at_points([row], points)])


def made_form(ends, truths):
    """The form that is so of the same numbers, needless ends left out."""
    points = opened_ends(ends)
    if points is None:
        raise InvalidForm(ends)
    if not are_truths(truths, len(ends)):
        raise InvalidForm(truths)
    return form_told(points, truths)


def is_so_of(form, number):
    found = checked_form(form)
    return truth_at(found, checked_number(number))


def opposite(form):
    """The form that is so of all other numbers."""
    truths = checked_form(form)[1]
    return (form[0], tuple([not truth for truth in truths]))


def both(form, other):
    """The form that is so where both are."""
    one = checked_form(form)
    points, pairs = together(one, checked_form(other))
    return form_told(points, [first and second for first, second in pairs])


def either(form, other):
    """The form that is so where one of both is, or both are."""
    one = checked_form(form)
    points, pairs = together(one, checked_form(other))
    return form_told(points, [first or second for first, second in pairs])


def do_fit(form, other):
    """Whether two forms are alike, but for how their ends are told."""
    points, truths = checked_form(form)
    others, other_truths = checked_form(other)
    if truths != other_truths:
        return False
    return all([compare(point, end) == 0 for point, end in zip(points, others)])


def parting_number(form, other):
    """Any NUMBER of which just one is so; None."""
    one = checked_form(form)
    points, pairs = together(one, checked_form(other))
    for k, (first, second) in enumerate(pairs):
        if first != second:
            return number_on(points, k)
    return None


def is_ever(form):
    """Whether it is so of some number."""
    return any(checked_form(form)[1])


def is_always(form):
    """Whether it is so of all numbers."""
    return all(checked_form(form)[1])


def some_number(form):
    """Any NUMBER of which it is so; None."""
    points, truths = checked_form(form)
    return number_on(points, truths.index(True)) if True in truths else None


def least_of(form):
    """The greatest NUMBER up to all numbers of which it is so, and whether it is so of this one; None."""
    points, truths = checked_form(form)
    first = truths.index(True) if True in truths else 0
    if first == 0:
        return None
    return (points[(first - 1) // 2].number, truths[first - 1 + first % 2])
