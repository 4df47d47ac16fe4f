"""The words of a text."""

from twoletters.errors import BadText

DIGITS = "0123456789"
SMALL = "abcdefghijklmnopqrstuvwxyz"
IN_NAMES = "abcdefghijklmnopqrstuvwxyz0123456789_"
PAIRS = ("<=", ">=", "!=")
KEPT = ("x", "y", "true", "false", "not", "all", "some", "let")
LONGEST_NAME = 24


def end_of_run(text, at, signs):
    """The index behind the longest run of some signs."""
    while at < len(text) and text[at] in signs:
        at += 1
    return at


def end_of_remark(text, at):
    found = text.find("\n", at)
    return len(text) if found < 0 else found


def end_of_word(text, at):
    """The index behind the word that begins at an index."""
    if text[at] in DIGITS:
        return end_of_run(text, at, DIGITS)
    if text[at] in SMALL:
        return end_of_run(text, at, IN_NAMES)
    return at + 2 if text[at:at + 2] in PAIRS else at + 1


def words_of(text):
    """The pairs of the spot of a word and the word."""
    if not isinstance(text, str):
        raise BadText(None)
    found = []
    at = 0
    while at < len(text):
        if text[at] in " \n":
            at += 1
        elif text[at] == "#":
            at = end_of_remark(text, at)
        else:
            behind = end_of_word(text, at)
            found.append((at, text[at:behind]))
            at = behind
    return tuple(found)


def is_free_name(value):
    """Whether a value, whatever it is, is a name that can be given to a saying."""
    if not isinstance(value, str) or value == "" or len(value) > LONGEST_NAME or value in KEPT:
        return False
    return value[0] in SMALL and end_of_run(value, 0, IN_NAMES) == len(value)
