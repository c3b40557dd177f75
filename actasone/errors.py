"""All errors of the package: one base, four families, and the errors with their fields."""


class CopyError(ValueError):
    """The base of all errors."""


class PaperError(CopyError):
    """The family of what is wrong with a paper."""


class BookError(CopyError):
    """The family of what cannot be used, or made."""


class LiveError(CopyError):
    """The family of what cannot happen."""


class TextError(CopyError):
    """The family of what cannot be read."""


class InvalidPaper(PaperError):
    """A checker does not accept a value: the word of the check, and the place."""

    def __init__(self, word, at):
        self.word = word
        self.at = at


class NotUsable(BookError):
    """A parameter is not as stated: its name, and -1."""

    def __init__(self, word, at):
        self.word = word
        self.at = at


class NoTable(BookError):
    """No setting keeps the bounds: a ring, and its sum, which is below nought."""

    def __init__(self, ring, total):
        self.ring = ring
        self.total = total


class InvalidEvent(LiveError):
    """An event is refused: the event, and the reason."""

    def __init__(self, event, reason):
        self.event = event
        self.reason = reason


class NothingToUndo(LiveError):
    """There is nothing left to take back: how many steps there are."""

    def __init__(self, steps):
        self.steps = steps


class InvalidText(TextError):
    """A text cannot be read: the line, and the word in it."""

    def __init__(self, line, field):
        self.line = line
        self.field = field


class InvalidRow(TextError):
    """A row cannot be answered: the row."""

    def __init__(self, row):
        self.row = row
