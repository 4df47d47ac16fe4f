"""The errors that the package tells."""


class LetterError(ValueError):
    """What all errors of the package stand under."""


class InvalidFraction(LetterError):
    """No fraction."""

    def __init__(self, given):
        self.given = given


class InvalidRow(LetterError):
    """No row, or nought where it is refused."""

    def __init__(self, given):
        self.given = given


class InvalidNumber(LetterError):
    """No NUMBER."""

    def __init__(self, given):
        self.given = given


class InvalidForm(LetterError):
    """No form, or no part of one."""

    def __init__(self, given):
        self.given = given


class InvalidIndex(LetterError):
    """No index of what is asked for."""

    def __init__(self, given):
        self.given = given


class InvalidCount(LetterError):
    """No whole number within the told limits."""

    def __init__(self, given):
        self.given = given


class InvalidRelation(LetterError):
    """No relation."""

    def __init__(self, given):
        self.given = given


class InvalidLetter(LetterError):
    """No letter, or one that does not fit."""

    def __init__(self, given):
        self.given = given


class InvalidPoly(LetterError):
    """No POLY, or one that is refused."""

    def __init__(self, given):
        self.given = given


class InvalidPlace(LetterError):
    """No PLACE."""

    def __init__(self, given):
        self.given = given


class InvalidCell(LetterError):
    """No cell."""

    def __init__(self, given):
        self.given = given


class InvalidPoint(LetterError):
    """No point, or one that does not fit."""

    def __init__(self, given):
        self.given = given


class InvalidSaying(LetterError):
    """No saying, or one that is refused."""

    def __init__(self, given):
        self.given = given


class TooMany(LetterError):
    """Too many unlike POLYs."""

    def __init__(self, given):
        self.given = given


class InvalidRows(LetterError):
    """No tuple of rows."""

    def __init__(self, index):
        self.index = index


class InvalidPolys(LetterError):
    """No tuple of POLYs."""

    def __init__(self, index):
        self.index = index


class InvalidLines(LetterError):
    """No tuple of lines."""

    def __init__(self, index):
        self.index = index


class BadText(LetterError):
    """A text that does not have its form."""

    def __init__(self, spot):
        self.spot = spot


class UnlikePlaces(LetterError):
    """PLACEs that are not over one x, or are one where that is refused."""
