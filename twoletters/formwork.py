"""Forms reckoned with: ascending points, and truths for all stretches and points in turn."""

from twoletters.points import compare, opened_by
from twoletters.tables import fraction_in


def opened_ends(value):
    """The points of an ascending tuple of NUMBERS; None for any other value."""
    if not isinstance(value, tuple):
        return None
    found = []
    known = {}
    for number in value:
        point = opened_by(number, known)
        if point is None or (found and compare(found[-1], point) >= 0):
            return None
        found.append(point)
    return found


def are_truths(value, many):
    """Whether a value is a tuple of True and False, one more than twice as many."""
    return isinstance(value, tuple) and len(value) == 2 * many + 1 and all([isinstance(each, bool) for each in value])


def is_needed(truths, k):
    """Whether an end is one at which truth changes, or one that is alone or left out."""
    return not truths[2 * k] == truths[2 * k + 1] == truths[2 * k + 2]


def opened_form(value):
    """The points and the truths of a form; None for any other value."""
    if not isinstance(value, tuple) or len(value) != 2:
        return None
    ends, truths = value
    if not isinstance(ends, tuple) or not are_truths(truths, len(ends)):
        return None
    if not all([is_needed(truths, k) for k in range(len(ends))]):
        return None
    points = opened_ends(ends)
    return None if points is None else (points, truths)


def needed(points, truths):
    """The points and the truths without needless ends."""
    kept = [truths[0]]
    ends = []
    for k, point in enumerate(points):
        if is_needed(truths, k):
            ends.append(point)
            kept.append(truths[2 * k + 1])
            kept.append(truths[2 * k + 2])
    return ends, tuple(kept)


def form_told(points, truths):
    """The form, needless ends left out."""
    ends, kept = needed(points, truths)
    return (tuple([point.number for point in ends]), kept)


def together(one, other):
    """The ends of two opened forms in order, and the pairs of their truths."""
    (points, truths), (others, other_truths) = one, other
    found = []
    pairs = [(truths[0], other_truths[0])]
    at = beside = 0
    while at < len(points) or beside < len(others):
        if beside == len(others):
            side = -1
        else:
            side = 1 if at == len(points) else compare(points[at], others[beside])
        found.append(others[beside] if side > 0 else points[at])
        first = truths[2 * at + (0 if side > 0 else 1)]
        second = other_truths[2 * beside + (0 if side < 0 else 1)]
        pairs.append((first, second))
        at += 0 if side > 0 else 1
        beside += 0 if side < 0 else 1
        pairs.append((truths[2 * at], other_truths[2 * beside]))
    return found, pairs


def number_on(points, k):
    """A NUMBER on one of the stretches and points in turn."""
    if k % 2:
        return points[k // 2].number
    return fraction_in(points, k // 2)


def truth_at(form, point):
    """Whether an opened form is so of a point."""
    points, truths = form
    for k, end in enumerate(points):
        side = compare(point, end)
        if side <= 0:
            return truths[2 * k + (1 if side == 0 else 0)]
    return truths[-1]
