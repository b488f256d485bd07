"""The errors of this package: one class for each kind of failure."""


class TurnError(ValueError):
    """The base of all errors of this package."""


class BadText(TurnError):
    """An argument is not a text, or is longer than it may be."""


class BadKind(TurnError):
    """An argument is not one of the four kinds of texts."""


class BadWay(TurnError):
    """An argument is not a way."""


class BadStanding(TurnError):
    """An argument is not a standing of the way."""


class BadSign(TurnError):
    """An argument is not one of the three signs."""


class BadRounds(TurnError):
    """An argument is not a number of rounds."""


class BadLimit(TurnError):
    """An argument is not a limit of rounds."""


class BadPrices(TurnError):
    """An argument is not a dict of prices."""


class BadOffers(TurnError):
    """An argument is not a tuple of indices of conversions of the way."""


class TooMany(TurnError):
    """A text has too many sources."""


class NothingDone(TurnError):
    """There is no deed to undo."""


class BadFlag(TurnError):
    """An argument is not a boolean."""


class BadWanted(TurnError):
    """A wanted text is not a text, or is longer than it may be."""


class BadLines(TurnError):
    """What is written cannot be read; `row` is the index of the first line at fault."""

    def __init__(self, row):
        super().__init__(f"line {row} cannot be read")
        self.row = row
