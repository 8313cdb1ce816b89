"""The errors that the package raises."""


class TurnpikeError(ValueError):
    """The base class of all errors of the package."""


class OutOfBounds(TurnpikeError):
    """A number, or the length of a list, is out of its bounds."""


class InvalidPurses(TurnpikeError):
    """The purses of a new ledger are not valid."""


class TooMuchMoney(TurnpikeError):
    """An amount would be greater than any amount may be."""


class InvalidSettings(TurnpikeError):
    """A number of the settings is out of its range."""


class NoSuchHand(TurnpikeError):
    """Others cannot offer a thing, for an honest party has not given its hand on it."""


class IsHonest(TurnpikeError):
    """Nobody else speaks for an honest party."""


class UnknownLetter(TurnpikeError):
    """There is no letter at a position."""


class UnknownParty(TurnpikeError):
    """A number is not that of an honest party."""


class NotNow(TurnpikeError):
    """A party cannot do a wish."""


class InvalidDeed(TurnpikeError):
    """A tuple has not the form of a deed."""


class InvalidText(TurnpikeError):
    """A text is not valid in a line."""

    def __init__(self, line):
        super().__init__(f"the text is not valid in line {line}")
        self.line = line
