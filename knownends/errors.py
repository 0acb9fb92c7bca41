"""The errors of the package: each one a direct subclass of KnownError."""


class KnownError(ValueError):
    """Whatever this package finds wrong."""


class NoTree(KnownError):
    """What should be a tree, or a number tree, is none."""


class NoRoom(KnownError):
    """What should be a room is none, or one that is too large here."""


class NoSketch(KnownError):
    """What should be a sketch is none."""


class NoName(KnownError):
    """What should be a name is none."""


class NoNumber(KnownError):
    """What should be an integer within some bounds is none."""


class OtherRoom(KnownError):
    """Two rooms that should be alike are not."""


class NoSpace(KnownError):
    """What should be a space sketch is none."""


class NoSketches(KnownError):
    """What should be a short tuple of sketches is none."""


class NoRanks(KnownError):
    """What should be a rank sketch is none."""


class NoPlace(KnownError):
    """What should be a place among fractions is none."""


class NoMarks(KnownError):
    """What should be the marks of a rank sketch are none."""


class NoNumbers(KnownError):
    """What should be a number stream is none."""


class NoSide(KnownError):
    """What should be a side, the least or the greatest, is none."""


class NoBook(KnownError):
    """What should be a book is none."""


class NoEvent(KnownError):
    """What should be an event is none, or one that is not possible now."""


class NoArea(KnownError):
    """What should be an area of a disk is none."""


class NoText(KnownError):
    """What should be a text of the signs that are allowed is none."""


class NoStand(KnownError):
    """No area of a disk stands."""


class NoThing(KnownError):
    """What should be a thing that has a text is none."""


class NoItems(KnownError):
    """What should be a thing to be noted, or a tuple of such, is none."""


class NoQuestion(KnownError):
    """What should be a question is none."""


class NoDay(KnownError):
    """What should be the text of a day is none."""


class NoTruth(KnownError):
    """What should be a truth of a sketch is none."""


class NoCounts(KnownError):
    """What should be counts are none."""


class BadText(KnownError):
    """A text of no thing, with the place of the first sign at which none can go on."""

    def __init__(self, place):
        self.place = place


class BadSheet(KnownError):
    """A sheet that cannot be run, with the number of its first bad line."""

    def __init__(self, line):
        self.line = line


class TooMany(KnownError):
    """A sketch that has seen too many items for this question, with the most that it may have seen."""

    def __init__(self, most):
        self.most = most
