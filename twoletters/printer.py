"""Plain texts."""

from twoletters.forms import checked_form
from twoletters.numbers import checked_number
from twoletters.polys import check_poly
from twoletters.sayings import check_letter, check_saying
from twoletters.wholes import is_fraction

SIGN_OF = {
    "below": "<",
    "not above": "<=",
    "at": "=",
    "not at": "!=",
    "above": ">",
    "not below": ">=",
}


def power_text(letter, many):
    return letter if many == 1 else letter + "^" + str(many)


def term_text(number, in_x, in_y):
    """The text of a term without its sign."""
    parts = []
    if abs(number) != 1 or (in_x == 0 and in_y == 0):
        parts.append(str(abs(number)))
    if in_x:
        parts.append(power_text("x", in_x))
    if in_y:
        parts.append(power_text("y", in_y))
    return "*".join(parts)


def text_of_poly(poly):
    found = []
    for in_y in reversed(range(len(poly))):
        for in_x in reversed(range(len(poly[in_y]))):
            number = poly[in_y][in_x]
            if number:
                if found:
                    found.append(" - " if number < 0 else " + ")
                elif number < 0:
                    found.append("-")
                found.append(term_text(number, in_x, in_y))
    return "".join(found) if found else "0"


def in_brackets(saying, words):
    """The text of a part of a saying, in brackets if it is made by one of some words."""
    text = text_of_saying(saying)
    return "[" + text + "]" if saying[0] in words else text


def text_of_saying(saying):
    word = saying[0]
    if word in ("true", "false"):
        return word
    if word == "either":
        return text_of_saying(saying[1]) + " | " + in_brackets(saying[2], ("either",))
    if word == "both":
        return in_brackets(saying[1], ("either",)) + " & " + in_brackets(saying[2], ("either", "both"))
    if word == "not":
        return "not " + in_brackets(saying[1], ("either", "both"))
    if word in ("all", "some"):
        return word + " " + saying[1] + ": " + in_brackets(saying[2], ("either", "both"))
    return text_of_poly(saying[1]) + " " + SIGN_OF[word] + " 0"


def text_of_number(number):
    if is_fraction(number):
        n, m = number
        return str(n) if m == 1 else str(n) + "/" + str(m)
    row, index = number
    return "root(" + text_of_poly((row,)) + ", " + str(index) + ")"


def poly_text(poly):
    check_poly(poly)
    return text_of_poly(poly)


def saying_text(saying):
    check_saying(saying)
    return text_of_saying(saying)


def number_text(number):
    checked_number(number)
    return text_of_number(number)


def runs_of(truths):
    """The pairs of the indexes of the first and the last one of each longest run of True."""
    found = []
    for k, truth in enumerate(truths):
        if truth and k > 0 and truths[k - 1]:
            found[-1] = (found[-1][0], k)
        elif truth:
            found.append((k, k))
    return found


def run_text(letter, ends, first, last):
    """The text of a stretch, told by the indexes of its first and its last part."""
    if first == last and first % 2:
        return letter + " = " + text_of_number(ends[first // 2])
    text = letter
    if first > 0:
        text = text_of_number(ends[(first - 1) // 2]) + (" <= " if first % 2 else " < ") + text
    if last < 2 * len(ends):
        text = text + (" <= " if last % 2 else " < ") + text_of_number(ends[last // 2])
    return text


def form_text(letter, form):
    """The text of a form of a letter."""
    check_letter(letter)
    checked_form(form)
    ends, truths = form
    if not ends:
        return "all" if truths[0] else "none"
    return " or ".join([run_text(letter, ends, first, last) for first, last in runs_of(truths)])
