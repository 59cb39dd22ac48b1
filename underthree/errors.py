"""All errors of the package: one base class, five families, and the errors of each family."""


class UnderError(ValueError):
    """The base class of all errors."""


class PaperError(UnderError):
    """The family of what checkers raise."""


class AskError(UnderError):
    """The family of what is raised for parameters."""


class CuttingError(UnderError):
    """The family of what cuttings can't do."""


class LiveError(UnderError):
    """The family of what a running house can't do."""


class TextError(UnderError):
    """The family of what lines can't tell."""


class InvalidPaper(PaperError):
    """A checker does not accept a value: a word for the fault, and where it is."""

    def __init__(self, word, at):
        self.word = word
        self.at = at


class NotUsable(AskError):
    """A parameter is not as stated: its name, and where the fault is."""

    def __init__(self, word, at):
        self.word = word
        self.at = at


class OutOfOrder(AskError):
    """A row of asks is no queue's row: the ask other begins later than one and ends earlier."""

    def __init__(self, one, other):
        self.one = one
        self.other = other


class NoCutting(CuttingError):
    """No cutting has these prices: what was left of them."""

    def __init__(self, left):
        self.left = left


class Beside(CuttingError):
    """Two neighbours can't both be quiet."""

    def __init__(self, here, there):
        self.here = here
        self.there = there


class NotRound(CuttingError):
    """A turn does not leave the cutting as it is."""

    def __init__(self, turn):
        self.turn = turn


class InvalidEvent(LiveError):
    """An event is barred, for a reason."""

    def __init__(self, event, reason):
        self.event = event
        self.reason = reason


class NothingToUndo(LiveError):
    """There are fewer steps than shall be undone."""

    def __init__(self, steps):
        self.steps = steps


class InvalidText(TextError):
    """A line can't be read: which line, and which part of it."""

    def __init__(self, line, field):
        self.line = line
        self.field = field


class InvalidRow(TextError):
    """A line reads well part by part, but its row is no event."""

    def __init__(self, row):
        self.row = row
