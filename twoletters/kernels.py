"""Quantifiers led away from inside out: the kernel of a saying, its forms opened."""

from twoletters.fields import ALWAYS, Field
from twoletters.formwork import needed, number_on, together
from twoletters.forms import RELATIONS
from twoletters.saywork import OPPOSITE, OTHER, free_in, says_exchanged
from twoletters.wholes import sign_of

TRUE = ("true",)
FALSE = ("false",)


def truth_word(is_so):
    return TRUE if is_so else FALSE


def both_forms(one, other):
    """The form that is so where two opened forms are."""
    points, pairs = together(one, other)
    return needed(points, [first and second for first, second in pairs])


def either_forms(one, other):
    """The form that is so where one of two opened forms is."""
    points, pairs = together(one, other)
    return needed(points, [first or second for first, second in pairs])


def opposite_form(form):
    return (form[0], tuple([not truth for truth in form[1]]))


def joined(word, one, other):
    """Both or either of two kernels, told without true and false."""
    own, strong = (TRUE, FALSE) if word == "both" else (FALSE, TRUE)
    if strong in (one, other):
        return strong
    if one == own:
        return other
    return one if other == own else (word, one, other)


def smoothed(kernel, is_not):
    """The kernel, or the opposite of it, without not, and without true and false in it."""
    word = kernel[0]
    if word == "not":
        return smoothed(kernel[1], not is_not)
    if word == "form":
        return (word, kernel[1], opposite_form(kernel[2])) if is_not else kernel
    told = OPPOSITE[word] if is_not else word
    if word in ("true", "false"):
        return (told,)
    if word in ("both", "either"):
        return joined(told, smoothed(kernel[1], is_not), smoothed(kernel[2], is_not))
    poly = kernel[1]
    if free_in(kernel):
        return (told, poly)
    return truth_word(sign_of(poly[0][0] if poly else 0) in RELATIONS[told])


def flattened(kernel, word):
    """The parts of which a kernel is made by both alone, or by either alone."""
    if kernel[0] != word:
        return [kernel]
    return flattened(kernel[1], word) + flattened(kernel[2], word)


def together_by(word, parts):
    """Both or either of all parts, as flat as can be."""
    if len(parts) == 1:
        return parts[0]
    half = len(parts) // 2
    return (word, together_by(word, parts[:half]), together_by(word, parts[half:]))


def put_curves(kernel, found):
    """Put to what is found what makes sections: POLYs that have y, forms of y by their ends."""
    word = kernel[0]
    if word in ("both", "either"):
        put_curves(kernel[1], found)
        put_curves(kernel[2], found)
    elif word == "form":
        if kernel[1] == "y":
            found[tuple([point.number for point in kernel[2][0]])] = True
    elif len(kernel[1]) > 1:
        found[kernel[1]] = True


def home_of(curves, groups):
    """The index of the group the first part of which has all these curves; None."""
    for k, group in enumerate(groups):
        first = group[0][1]
        if bool(curves) == bool(first) and all([curve in first for curve in curves]):
            return k
    return None


def grouped(parts):
    """The parts in groups: those without y, and each other one beside one that has all its curves."""
    told = []
    for part in parts:
        curves = {}
        put_curves(part, curves)
        told.append((part, curves))
    groups = []
    for pair in sorted(told, key=lambda each: -len(each[1])):
        home = home_of(pair[1], groups)
        if home is None:
            groups.append([pair])
        else:
            groups[home].append(pair)
    return [[part for part, curves in group] for group in groups]


def fields_of(kernel, guard):
    """Pairs of a kernel and a guard: the smoothed kernel is so where the guard is exactly where one of these is."""
    if kernel == FALSE or True not in guard[1]:
        return []
    if kernel == TRUE:
        return [(kernel, guard)]
    if "y" not in free_in(kernel):
        return fields_of(TRUE, both_forms(guard, Field(kernel, ALWAYS).shadow()))
    if kernel[0] == "either":
        groups = grouped(flattened(kernel, "either"))
        if len(groups) > 1:
            found = []
            for group in groups:
                found = found + fields_of(together_by("either", group), guard)
            return found
    parts = flattened(kernel, "both")
    apart = [part for part in parts if "y" not in free_in(part)]
    if apart:
        rest = [part for part in parts if "y" in free_in(part)]
        guard = both_forms(guard, Field(together_by("both", apart), ALWAYS).shadow())
        return fields_of(together_by("both", rest), guard)
    return [(kernel, guard)]


def shadow_of(kernel):
    """The form of x that is so where a smoothed kernel is with some y."""
    found = ((), (False,))
    for part, guard in fields_of(kernel, ALWAYS):
        found = either_forms(found, guard if part == TRUE else Field(part, guard).shadow())
    return found


def place_of(kernel):
    """Any PLACE at which a kernel is so; None."""
    for part, guard in fields_of(smoothed(kernel, False), ALWAYS):
        if part == TRUE:
            return (number_on(guard[0], guard[1].index(True)), (0, 1))
        found = Field(part, guard).some_place()
        if found is not None:
            return found
    return None


def form_in(kernel, letter):
    """The form that a kernel in which no other letter is free is so of."""
    if letter == "y":
        kernel = says_exchanged(kernel)
    return shadow_of(smoothed(kernel, False))


def led_away_alone(word, letter, kernel):
    """The kernel of all or some of a kernel in which not both letters are free; None if both are."""
    free = free_in(kernel)
    if letter not in free:
        return kernel
    if len(free) == 2:
        return None
    truths = form_in(kernel, letter)[1]
    return truth_word(all(truths) if word == "all" else any(truths))


def form_kernel(letter, form):
    """The kernel that is so where an opened form of a letter is."""
    return ("form", letter, form) if form[0] else truth_word(form[1][0])


def led_away(word, letter, kernel):
    """The kernel of all or some of a kernel."""
    alone = led_away_alone(word, letter, kernel)
    if alone is not None:
        return alone
    if letter == "x":
        kernel = says_exchanged(kernel)
    is_all = word == "all"
    form = shadow_of(smoothed(kernel, is_all))
    return form_kernel(OTHER[letter], opposite_form(form) if is_all else form)


def led_away_at_once(word, kernel):
    """The truth of all or some of both letters: a PLACE at which the kernel is not so, or is so, is looked for."""
    if word == "all":
        return truth_word(place_of(("not", kernel)) is None)
    return truth_word(place_of(kernel) is not None)


def kernel_of(saying):
    word = saying[0]
    if word == "not":
        return (word, kernel_of(saying[1]))
    if word in ("both", "either"):
        return (word, kernel_of(saying[1]), kernel_of(saying[2]))
    if word not in ("all", "some"):
        return saying
    letter, inner = saying[1], saying[2]
    if inner[0] != word or inner[1] == letter:
        return led_away(word, letter, kernel_of(inner))
    kernel = kernel_of(inner[2])
    if len(free_in(kernel)) == 2:
        return led_away_at_once(word, kernel)
    return led_away(word, letter, led_away(word, inner[1], kernel))
