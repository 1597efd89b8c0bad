"""The errors of the package: a base class, four families, and a class for each kind of failure."""


class ClimbError(ValueError):
    """The base class of all errors."""


class PaperError(ClimbError):
    """The family of what a checker does not accept."""


class RuleError(ClimbError):
    """The family of values and rows that cannot be used, and of what does not come to rest."""


class LiveError(ClimbError):
    """The family of live analyses."""


class TextError(ClimbError):
    """The family of texts that write nothing."""


class InvalidPaper(PaperError):
    """A checker does not accept a value: word is its complaint, at the place."""

    def __init__(self, word, at):
        self.word = word
        self.at = at


class NotUsable(RuleError):
    """An argument is not as stated: word is the name of the parameter, at the place in it, or -1."""

    def __init__(self, word, at):
        self.word = word
        self.at = at


class NotRising(RuleError):
    """In what should be a row, the element with this index is less than the one ahead of it."""

    def __init__(self, index):
        self.index = index


class Restless(RuleError):
    """A rule does not come to rest behind so many rounds."""

    def __init__(self, rounds):
        self.rounds = rounds


class InvalidEvent(LiveError):
    """An event is not possible, for this reason."""

    def __init__(self, event, reason):
        self.event = event
        self.reason = reason


class NothingToUndo(LiveError):
    """There is no event to take back."""

    def __init__(self, steps):
        self.steps = steps


class InvalidText(TextError):
    """A text writes nothing: the first line that is not possible, and in it the first such word."""

    def __init__(self, line, field):
        self.line = line
        self.field = field


class InvalidRow(TextError):
    """A row of a desk that it does not know."""

    def __init__(self, row):
        self.row = row


def require(holds, word):
    """Raise NotUsable for the parameter of this name unless the condition holds."""
    if not holds:
        raise NotUsable(word, -1)
