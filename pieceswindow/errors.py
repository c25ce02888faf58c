"""All errors of the package."""


class PieceError(ValueError):
    """The base class of all errors."""


class PaperError(PieceError):
    """The family of errors of papers."""


class BookError(PieceError):
    """The family of errors of books and parameters."""


class LiveError(PieceError):
    """The family of errors of live hearers."""


class TextError(PieceError):
    """The family of errors of texts and rows."""


class InvalidPaper(PaperError):
    """A checker does not accept a paper, for the entry word of its list, at this place."""

    def __init__(self, word, at):
        self.word = word
        self.at = at


class NotUsable(BookError):
    """A parameter, word, is not as stated."""

    def __init__(self, word, at):
        self.word = word
        self.at = at


class Shut(BookError):
    """There is no such run, since what is in the ring shuts it out."""

    def __init__(self, ring):
        self.ring = ring


class InvalidEvent(LiveError):
    """An event is not possible, for this reason."""

    def __init__(self, event, reason):
        self.event = event
        self.reason = reason


class NothingToUndo(LiveError):
    """There are no steps that can be taken back."""

    def __init__(self, steps):
        self.steps = steps


class InvalidText(TextError):
    """A text cannot stand so, from this field of this line on."""

    def __init__(self, line, field):
        self.line = line
        self.field = field


class InvalidRow(TextError):
    """A row is none that can be answered."""

    def __init__(self, row):
        self.row = row
