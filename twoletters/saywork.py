"""Sayings reckoned with, and kernels likewise. Nothing is checked here."""

from twoletters.polywork import poly_exchanged, poly_trimmed
from twoletters.rowwork import scaled_value
from twoletters.wholes import power

LETTERS = ("x", "y")
OTHER = {"x": "y", "y": "x"}
OPPOSITE = {
    "below": "not below",
    "at": "not at",
    "above": "not above",
    "not below": "below",
    "not at": "at",
    "not above": "above",
    "true": "false",
    "false": "true",
    "both": "either",
    "either": "both",
    "all": "some",
    "some": "all",
}


def width_in_x(poly):
    """How many numbers the longest row has."""
    return max([len(row) for row in poly], default=0)


def letters_of(poly):
    """The letters that a POLY has."""
    found = []
    if width_in_x(poly) > 1:
        found.append("x")
    if len(poly) > 1:
        found.append("y")
    return tuple(found)


def free_in(saying):
    """The letters that are free in a saying or kernel, x ahead of y."""
    word = saying[0]
    if word in ("true", "false"):
        return ()
    if word == "not":
        return free_in(saying[1])
    if word == "form":
        return (saying[1],)
    if word in ("both", "either"):
        one, other = free_in(saying[1]), free_in(saying[2])
        return tuple([letter for letter in LETTERS if letter in one or letter in other])
    if word in ("all", "some"):
        return tuple([letter for letter in free_in(saying[2]) if letter != saying[1]])
    return letters_of(saying[1])


def depth_in(saying):
    """How deep a saying is."""
    word = saying[0]
    if word == "not":
        return 1 + depth_in(saying[1])
    if word in ("both", "either"):
        return 1 + max(depth_in(saying[1]), depth_in(saying[2]))
    return 1 + depth_in(saying[2]) if word in ("all", "some") else 1


def says_exchanged(saying):
    """The saying or kernel with x for y, y for x."""
    word = saying[0]
    if word in ("true", "false"):
        return saying
    if word == "not":
        return (word, says_exchanged(saying[1]))
    if word == "form":
        return (word, OTHER[saying[1]], saying[2])
    if word in ("both", "either"):
        return (word, says_exchanged(saying[1]), says_exchanged(saying[2]))
    if word in ("all", "some"):
        return (word, OTHER[saying[1]], says_exchanged(saying[2]))
    return (word, poly_exchanged(saying[1]))


def poly_put(poly, letter, fraction):
    """The POLY with a fraction for a letter, times its m as often as its degree in the letter."""
    if letter == "y":
        return poly_exchanged(poly_put(poly_exchanged(poly), "x", fraction))
    n, m = fraction
    longest = width_in_x(poly)
    numbers = [scaled_value(row, n, m) * power(m, longest - len(row)) for row in poly]
    return poly_trimmed([(number,) if number else () for number in numbers])


def says_put(saying, letter, fraction):
    """The saying with a fraction for a letter where it is free."""
    word = saying[0]
    if word in ("true", "false") or (word in ("all", "some") and saying[1] == letter):
        return saying
    if word == "not":
        return (word, says_put(saying[1], letter, fraction))
    if word in ("both", "either"):
        return (word, says_put(saying[1], letter, fraction), says_put(saying[2], letter, fraction))
    if word in ("all", "some"):
        return (word, saying[1], says_put(saying[2], letter, fraction))
    return (word, poly_put(saying[1], letter, fraction))


def says_pushed(saying, is_not):
    """The saying, or the opposite of it, without any not."""
    word = saying[0]
    if word == "not":
        return says_pushed(saying[1], not is_not)
    told = OPPOSITE[word] if is_not else word
    if word in ("both", "either"):
        return (told, says_pushed(saying[1], is_not), says_pushed(saying[2], is_not))
    if word in ("all", "some"):
        return (told, saying[1], says_pushed(saying[2], is_not))
    return (told,) + saying[1:]
