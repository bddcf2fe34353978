"""All errors of the package.

Each error keeps its fields as they are handed in, whatever they are.
"""


class GroupError(ValueError):
    """The base class of all errors of the package."""


class PaperError(GroupError):
    """The family of what checkers raise."""


class CountError(GroupError):
    """The family of arguments that are not as stated."""


class LiveError(GroupError):
    """The family of what live numbers raise."""


class TextError(GroupError):
    """The family of texts that write nothing."""


class InvalidPaper(PaperError):
    """A checker does not accept a value: word says why, at where."""

    def __init__(self, word, at):
        self.word = word
        self.at = at


class NotUsable(CountError):
    """An argument is not as stated: word is its name, at its index, or -1."""

    def __init__(self, word, at):
        self.word = word
        self.at = at


class InvalidEvent(LiveError):
    """An event of a live number is not possible, for this reason."""

    def __init__(self, event, reason):
        self.event = event
        self.reason = reason


class NothingToUndo(LiveError):
    """There are only so many steps to take back."""

    def __init__(self, steps):
        self.steps = steps


class InvalidText(TextError):
    """A text writes nothing: field is the index of the first wrong word in this line."""

    def __init__(self, line, field):
        self.line = line
        self.field = field


class InvalidRow(TextError):
    """A desk does not know this row."""

    def __init__(self, row):
        self.row = row
