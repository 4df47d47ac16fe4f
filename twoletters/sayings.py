"""Sayings: nested tuples of relations of POLYs, not, both, either, all and some."""

from twoletters.errors import InvalidLetter, InvalidPolys, InvalidSaying, TooMany
from twoletters.forms import RELATIONS
from twoletters.polys import MOST_POLYS, check_fraction, is_poly
from twoletters.saywork import LETTERS, depth_in, free_in, says_exchanged, says_pushed, says_put, width_in_x

DEEPEST = 10
MOST_UNLIKE = 8
MOST_DEGREE = 4


def is_small_poly(value):
    """Whether a value is a POLY of a degree up to 4 in each letter."""
    return is_poly(value) and len(value) <= MOST_DEGREE + 1 and width_in_x(value) <= MOST_DEGREE + 1


def check_small_polys(polys):
    if not isinstance(polys, tuple) or len(polys) > MOST_POLYS:
        raise InvalidPolys(None)
    for index, poly in enumerate(polys):
        if not is_small_poly(poly):
            raise InvalidPolys(index)


def is_letter(value):
    return isinstance(value, str) and value in LETTERS


def does_fit(value, deep, found):
    """Whether a value is a saying, up to DEEP deep; its POLYs are put to those that are found."""
    if deep == 0 or not isinstance(value, tuple) or not value or not isinstance(value[0], str):
        return False
    word, rest = value[0], value[1:]
    if word in ("true", "false"):
        return rest == ()
    if word == "not":
        return len(rest) == 1 and does_fit(rest[0], deep - 1, found)
    if word in ("both", "either"):
        return len(rest) == 2 and does_fit(rest[0], deep - 1, found) and does_fit(rest[1], deep - 1, found)
    if word in ("all", "some"):
        return len(rest) == 2 and is_letter(rest[0]) and does_fit(rest[1], deep - 1, found)
    if word not in RELATIONS or len(rest) != 1 or not is_small_poly(rest[0]):
        return False
    found[rest[0]] = True
    return True


def unlike_polys(saying):
    """The unlike POLYs of what has the form of a saying, in the order in which they stand."""
    found = {}
    if not does_fit(saying, DEEPEST, found):
        raise InvalidSaying(saying)
    return tuple(list(found))


def check_saying(saying):
    many = len(unlike_polys(saying))
    if many > MOST_UNLIKE:
        raise TooMany(many)


def check_letter(letter):
    if not is_letter(letter):
        raise InvalidLetter(letter)


def is_saying(value):
    """Whether a value, whatever it is, is a saying."""
    found = {}
    return does_fit(value, DEEPEST, found) and len(found) <= MOST_UNLIKE


def depth_of(saying):
    check_saying(saying)
    return depth_in(saying)


def polys_of(saying):
    """The unlike POLYs, in the order in which they stand."""
    check_saying(saying)
    return unlike_polys(saying)


def free_letters(saying):
    check_saying(saying)
    return free_in(saying)


def exchanged(saying):
    """The saying with x for y, y for x."""
    check_saying(saying)
    return says_exchanged(saying)


def put_for(saying, letter, fraction):
    """The saying with a fraction for a letter where it is free."""
    check_saying(saying)
    check_letter(letter)
    check_fraction(fraction)
    return says_put(saying, letter, fraction)


def pushed(saying):
    """The saying without any not."""
    check_saying(saying)
    return says_pushed(saying, False)
