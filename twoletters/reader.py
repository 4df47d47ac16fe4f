"""Sayings read from texts."""

from twoletters.errors import TooMany
from twoletters.parsing import Reader
from twoletters.sayings import MOST_UNLIKE, unlike_polys


def check_many(sayings):
    for saying in sayings:
        many = len(unlike_polys(saying))
        if many > MOST_UNLIKE:
            raise TooMany(many)


def known_sayings(reader):
    return [found[0] for found in reader.known.values()]


def read_saying(text):
    """The saying of a text ahead of which no DEFINITION stands."""
    reader = Reader(text)
    found = reader.read_saying()
    reader.finish()
    check_many([found[0]])
    return found[0]


def read_scene(text):
    """The saying behind some DEFINITIONs, filled."""
    reader = Reader(text)
    reader.read_book()
    found = reader.read_saying()
    reader.finish()
    check_many(known_sayings(reader) + [found[0]])
    return found[0]


def read_book(text):
    """The pairs of a name and a saying, filled."""
    reader = Reader(text)
    reader.read_book()
    reader.finish()
    check_many(known_sayings(reader))
    return tuple([(name, found[0]) for name, found in reader.known.items()])
