"""Regions with what is known of them by hand, and random ones."""

from tests.some_sayings import random_poly, random_saying
from tests.test_sheets import poly
from twoletters.reader import read_saying
from twoletters.sayings import is_saying

# The text; is it open, closed, bounded; dimension, Euler number, pieces, holes of the region.
REGIONS = [
    ("true", True, True, False, 2, 1, 1, 0),
    ("false", True, True, True, None, 0, 0, 0),
    ("0 = 1 | x != x", True, True, True, None, 0, 0, 0),
    ("x^2 + y^2 < 1", True, False, True, 2, 1, 1, 0),
    ("x^2 + y^2 <= 1", False, True, True, 2, 1, 1, 0),
    ("x^2 + y^2 = 1", False, True, True, 1, 0, 1, 1),
    ("x^2 + y^2 > 1", True, False, False, 2, 0, 1, 1),
    ("x^2 + y^2 >= 1", False, True, False, 2, 0, 1, 1),
    ("x^2 + y^2 != 1", True, False, False, 2, 1, 2, 1),
    ("x^2 + y^2 = 0", False, True, True, 0, 1, 1, 0),
    ("x^2 + y^2 > 0", True, False, False, 2, 0, 1, 1),
    ("1 < x^2 + y^2 & x^2 + y^2 < 4", True, False, True, 2, 0, 1, 1),
    ("1 <= x^2 + y^2 & x^2 + y^2 <= 4", False, True, True, 2, 0, 1, 1),
    ("1 <= x^2 + y^2 & x^2 + y^2 < 4", False, False, True, 2, 0, 1, 1),
    ("x > 0", True, False, False, 2, 1, 1, 0),
    ("x >= 0", False, True, False, 2, 0, 1, 0),
    ("x = 0", False, True, False, 1, -1, 1, 0),
    ("y > x", True, False, False, 2, 1, 1, 0),
    ("y >= x", False, True, False, 2, 0, 1, 0),
    ("y = x", False, True, False, 1, -1, 1, 0),
    ("y != x", True, False, False, 2, 2, 2, 0),
    ("x*y = 1", False, True, False, 1, -2, 2, 0),
    ("x*y != 1", True, False, False, 2, 3, 3, 0),
    ("x*y = 0", False, True, False, 1, -3, 1, 0),
    ("x*y != 0", True, False, False, 2, 4, 4, 0),
    ("x*(y - x) = 0", False, True, False, 1, -3, 1, 0),
    ("x = 0 & y > 0", False, False, False, 1, -1, 1, 0),
    ("x = 0 & 0 < y & y < 1", False, False, True, 1, -1, 1, 0),
    ("x = 0 & 0 <= y & y <= 1", False, True, True, 1, 1, 1, 0),
    ("x = 0 & 0 <= y & y < 1", False, False, True, 1, 0, 1, 0),
    ("x^2 = 1 & y^2 = 1", False, True, True, 0, 4, 4, 0),
    ("x^2 + y^2 < 1 | x^2 + y^2 = 4", False, False, True, 2, 1, 2, 1),
    ("x^2 + y^2 < 1 | x = 1 & y = 0", False, False, True, 2, 2, 1, 0),
    ("x^2 + y^2 <= 1 & not [x = 1 & y = 0]", False, False, True, 2, 0, 1, 0),
    ("[(x - 1)^2 + y^2 <= 1] | [(x + 1)^2 + y^2 <= 1]", False, True, True, 2, 1, 1, 0),
    ("[(x - 1)^2 + y^2 < 1] | [(x + 1)^2 + y^2 < 1]", True, False, True, 2, 2, 2, 0),
    ("[(x - 1)^2 + y^2 = 1] | [(x + 1)^2 + y^2 = 1]", False, True, True, 1, -1, 1, 2),
    ("x^2 < 1 & y^2 < 1", True, False, True, 2, 1, 1, 0),
    ("x^2 <= 1 & y^2 < 1", False, False, True, 2, -1, 1, 0),
    ("x^2 = 1 & y^2 <= 1 | x^2 <= 1 & y^2 = 1", False, True, True, 1, 0, 1, 1),
    ("x^2 >= 1 & y^2 >= 1", False, True, False, 2, 0, 4, 0),
    ("y^2 = x^2*(x + 1)", False, True, False, 1, -2, 1, 1),
    ("y^2 = x^3", False, True, False, 1, -1, 1, 0),
    ("y^2 = x^3 - x", False, True, False, 1, -1, 2, 1),
    ("y^2 < x^3 - x", True, False, False, 2, 2, 2, 0),
    ("y = x^2 | y = 1", False, True, False, 1, -4, 1, 1),
    ("(x^2 + y^2 - 1)*(x^2 + y^2 - 4) < 0", True, False, True, 2, 0, 1, 1),
    ("(x^2 + y^2 - 1)*(x^2 + y^2 - 4) = 0", False, True, True, 1, 0, 2, 2),
    ("(x^2 + y^2 - 1)*(x^2 + y^2 - 4) <= 0", False, True, True, 2, 0, 1, 1),
    ("some y: x^2 + y^2 < 1", True, False, False, 2, 1, 1, 0),
    ("some x: x^2 + y^2 <= 1", False, True, False, 2, -1, 1, 0),
    ("[some x: x^2 + y^2 <= 1] & [some y: x^2 + y^2 <= 1]", False, True, True, 2, 1, 1, 0),
    ("x^2 = 2 & y^2 = 3 & x*y > 0", False, True, True, 0, 2, 2, 0),
    ("all y: y^2 + x*y + 1 > 0", True, False, False, 2, 1, 1, 0),
]
TEXTS = [
    "x^2 + y^2 - 1", "x^2 + y^2 - 4", "x^2 + y^2 - 9", "(x - 1)^2 + y^2 - 1", "(x - 3)^2 + y^2 - 1", "x^2 + (y - 1)^2 - 4", "x*y", "x*y - 1", "x - y", "y - x^2", "x - y^2", "x", "y", "x^2 - 2", "y^2 - 3",
    "x^2*y - x", "x^2 + y^2", "(x^2 + y^2 - 1)*(x^2 + y^2 - 4)", "(x^2 + y^2)^2 - 4*x^2 + y^2", "x^2 - y^2", "y^2 - x^3", "y^2 - x^3 - x^2", "x*(x - y)", "y*(x - 1)", "x^2*y^2 - 1", "x^2 + 2*y^2 - 3",
    "(x^2 - 1)*(y^2 - 1)", "3", "0", "x^4 + y^4 - 1",
]
POOL = [poly(text) for text in TEXTS]


def told_regions():
    for text, *more in REGIONS:
        yield text, read_saying(text), more


def random_regions(luck, many, deep=4, quantifiers=False):
    while many:
        pool = luck.sample(POOL, luck.randint(1, 3)) if luck.random() < 0.7 else [random_poly(luck, 2, 2) for _ in range(2)]
        saying = random_saying(luck, deep, pool, quantifiers)
        if is_saying(saying):
            many -= 1
            yield saying
