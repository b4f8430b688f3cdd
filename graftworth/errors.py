"""The errors that the program raises."""


class GraftError(ValueError):
    """The base class of all errors of the program."""


class NotNumber(GraftError):
    """A pair is not a number of the field."""


class NotKinds(GraftError):
    """A tuple does not tell the kinds of operations."""


class NotTree(GraftError):
    """A text is not a tree of the kinds."""


class NotSum(GraftError):
    """A list of terms is not a sum."""


class NotBook(GraftError):
    """Relations do not make a book."""


class NotPlacing(GraftError):
    """A tuple is not a placing of a relation of the book."""


class NotMatrix(GraftError):
    """A list is not a matrix of the field."""


class NotWorld(GraftError):
    """A tuple is not a world."""


class NotLeading(GraftError):
    """Images do not make a leading."""


class BadNumber(GraftError):
    """An integer is out of its range, or things that must fit do not."""


class NoAnswer(GraftError):
    """What is asked for is not there."""


class TooLarge(GraftError):
    """A result is beyond the bounds."""


class OpenTrial(GraftError):
    """A trial of the journal is open, or none is, where it must be otherwise."""


class Malformed(GraftError):
    """A text has not the form that is due."""

    def __init__(self, at):
        self.at = at


class BadJournal(GraftError):
    """A row of a record is not what the journal would have written."""

    def __init__(self, row):
        self.row = row
