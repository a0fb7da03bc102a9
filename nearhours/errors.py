"""The errors of the package: each keeps its fields as they are handed in."""


class HourError(ValueError):
    """The base class of all errors of the package."""


class PaperError(HourError):
    """The family of what checkers refuse."""


class TownError(HourError):
    """The family of arguments that are not usable."""


class HouseError(HourError):
    """The family of what houses refuse."""


class TextError(HourError):
    """The family of what cannot be read."""


class InvalidPaper(PaperError):
    """A checker refuses a value: the word of the first entry that applies, and where."""

    def __init__(self, word, at):
        self.word = word
        self.at = at


class NotUsable(TownError):
    """The argument that the word names is not usable."""

    def __init__(self, word, at):
        self.word = word
        self.at = at


class InvalidEvent(HouseError):
    """A house refuses an event for a reason."""

    def __init__(self, event, reason):
        self.event = event
        self.reason = reason


class NothingToUndo(HouseError):
    """No event is left to take back."""

    def __init__(self, steps):
        self.steps = steps


class Barred(HouseError):
    """A letter is refused, since no feared lot would explain the run with it."""

    def __init__(self, event, lot):
        self.event = event
        self.lot = lot


class InvalidText(TextError):
    """A text is not possible from this field of this line on."""

    def __init__(self, line, field):
        self.line = line
        self.field = field


class InvalidRow(TextError):
    """A desk does not know what a row says."""

    def __init__(self, row):
        self.row = row
