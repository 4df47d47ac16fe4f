"""Sayings by luck, and what is so of them at fractions if they are simple."""

from fractions import Fraction

from tests import naive

SIGNS = {"below": (-1,), "at": (0,), "above": (1,), "not below": (0, 1), "not at": (-1, 1), "not above": (-1, 0)}
RELATIONS = list(SIGNS)


def random_poly(luck, high=2, wide=2, size=3):
    rows = [naive.cut([luck.randint(-size, size) for _ in range(luck.randint(0, wide + 1))]) for _ in range(luck.randint(0, high + 1))]
    return naive.poly_cut(rows)


def random_saying(luck, deep, pool, quantifiers=True):
    """A saying at most this deep with POLYs of the pool."""
    if deep <= 1 or luck.random() < 0.15:
        if luck.random() < 0.08:
            return (luck.choice(["true", "false"]),)
        return (luck.choice(RELATIONS), luck.choice(pool))
    which = luck.random()
    if which < 0.2:
        return ("not", random_saying(luck, deep - 1, pool, quantifiers))
    if which < 0.6 or not quantifiers:
        parts = [random_saying(luck, deep - 1, pool, quantifiers), random_saying(luck, luck.randint(1, deep - 1), pool, quantifiers)]
        luck.shuffle(parts)
        return (luck.choice(["both", "either"]), *parts)
    return (luck.choice(["all", "some"]), luck.choice("xy"), random_saying(luck, deep - 1, pool, quantifiers))


def is_so(saying, x, y):
    """Whether a simple saying is so at two fractions."""
    word = saying[0]
    if word in ("true", "false"):
        return word == "true"
    if word == "not":
        return not is_so(saying[1], x, y)
    if word == "both":
        return is_so(saying[1], x, y) and is_so(saying[2], x, y)
    if word == "either":
        return is_so(saying[1], x, y) or is_so(saying[2], x, y)
    return naive.sign(naive.poly_value(saying[1], Fraction(x), Fraction(y))) in SIGNS[word]


def with_letter(luck, letter, deep, pool):
    """A saying in which just this letter is free, or none."""
    saying = random_saying(luck, deep, pool)
    return (luck.choice(["all", "some"]), "y" if letter == "x" else "x", saying)
