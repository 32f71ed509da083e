"""All errors that the program raises."""


class FoldError(ValueError):
    """The base class of all errors of this program."""


class NotOrders(FoldError):
    """A tuple is not the orders of a floor."""


class NotWord(FoldError):
    """A string is not a word of the letters 0, 1 and 2, or it is too long, or not one letter."""


class NotSeries(FoldError):
    """A tuple is not a fraction of two polynomials."""


class NotPolygon(FoldError):
    """A tuple is not a polygon."""


class NotPairing(FoldError):
    """A tuple is not a pairing of the polygon."""


class NotRow(FoldError):
    """A tuple is not a row of the pairing."""


class NotFitting(FoldError):
    """The pairing does not fit."""


class NotFlat(FoldError):
    """The orders are not those of a flat floor with places."""


class NotFinite(FoldError):
    """Something that must be finite is not."""


class NotImages(FoldError):
    """A tuple is not images of the pairing."""


class BadNumber(FoldError):
    """A number is beyond its limits, or names nothing."""


class TooLarge(FoldError):
    """An answer would be larger than its limit."""


class NoAnswer(FoldError):
    """The question has no answer."""


class OpenTrial(FoldError):
    """A trial is open, or none is open, where it must be the other way round."""


class BadStep(FoldError):
    """A step of a log is not allowed; `at` is its index."""

    def __init__(self, at):
        super().__init__(f"the step {at} is not allowed")
        self.at = at


class Malformed(FoldError):
    """A character cannot stand at its place; `at` is its index."""

    def __init__(self, at):
        super().__init__(f"the character {at} cannot stand there")
        self.at = at


class BadJournal(FoldError):
    """A row of a record is wrong; `row` is its index."""

    def __init__(self, row):
        super().__init__(f"the row {row} of the record is wrong")
        self.row = row
