"""All errors of the program, in families under KeepError."""


class KeepError(ValueError):
    """The base of all errors of the program."""


class PaperError(KeepError):
    """The family of what checkers of papers raise."""


class HallError(KeepError):
    """The family of what functions raise for parameters that are not usable."""


class PlayError(KeepError):
    """The family of what games raise."""


class TextError(KeepError):
    """The family of what readers of texts raise."""


class InvalidPaper(PaperError):
    """A value is not what a checker asks for."""

    def __init__(self, word, at):
        self.word = word
        self.at = at


class NotUsable(HallError):
    """A parameter is not usable."""

    def __init__(self, word, at):
        self.word = word
        self.at = at


class InvalidEvent(PlayError):
    """An event is refused."""

    def __init__(self, event, reason):
        self.event = event
        self.reason = reason


class NothingToUndo(PlayError):
    """There is no step that could be taken back."""

    def __init__(self, steps):
        self.steps = steps


class Barred(PlayError):
    """A look is refused, as the keeper would be lost by it."""

    def __init__(self, event, things):
        self.event = event
        self.things = things


class InvalidText(TextError):
    """A word of a text cannot stand, or is missing."""

    def __init__(self, line, field):
        self.line = line
        self.field = field


class InvalidRow(TextError):
    """A desk does not know what to say to a row."""

    def __init__(self, row):
        self.row = row
