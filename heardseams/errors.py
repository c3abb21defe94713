"""The errors of the package."""


class SeamError(ValueError):
    """The base of all errors of the package."""


class NoShape(SeamError):
    """It is not a shape, or not one of as many words as are asked for."""


class NoNumber(SeamError):
    """It is not an integer within the bounds."""


class NoSeam(SeamError):
    """It is not a seam of the shape."""


class NoPart(SeamError):
    """The words are not the first and the last one of a phrase."""


class NoStep(SeamError):
    """It is not a regrouping of the shape."""


class NoLengths(SeamError):
    """It is not a tuple of lengths of words."""


class OtherBook(SeamError):
    """The two books do not go together."""


class NoWords(SeamError):
    """It is not a tuple of words, or not a word."""


class NoRow(SeamError):
    """It is not a row of sounds."""


class NoTable(SeamError):
    """It is not a table of how near seams stand."""


class NoShapes(SeamError):
    """It is not a list of shapes."""


class NoList(SeamError):
    """It is not a list of words."""


class NoBallot(SeamError):
    """It is not the ballot of a shape."""


class NoLeaning(SeamError):
    """It is not a leaning."""


class NoSpot(SeamError):
    """There is no word at this place."""


class NoOrder(SeamError):
    """It is not an order of the seams."""


class NoChoices(SeamError):
    """It is not a tuple of choices."""


class NoSide(SeamError):
    """It is not a side."""


class NothingLeft(SeamError):
    """The only word cannot be taken out."""


class NoText(SeamError):
    """It is not a text of this kind."""


class NoLine(SeamError):
    """It is not a line that the desk knows."""


class NothingKept(SeamError):
    """The desk keeps no phrase."""


class OtherWords(SeamError):
    """The words have other lengths."""


class NothingDone(SeamError):
    """There is nothing to take back."""


# The messages leave the values out: a value may be of any kind, and
# Python refuses to write out integers of very many figures.


class NoBook(SeamError):
    """A part of the book is not as it has to be."""

    def __init__(self, part):
        SeamError.__init__(self, "a part of the book is wrong")
        self.part = part


class TooMany(SeamError):
    """There are more than this many."""

    def __init__(self, most):
        SeamError.__init__(self, "there are too many")
        self.most = most


class TooLong(SeamError):
    """It would be longer than this."""

    def __init__(self, most):
        SeamError.__init__(self, "it is too long")
        self.most = most
