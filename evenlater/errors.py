"""All errors of the program, with their families and fields."""


class LaterError(ValueError):
    """The base class of all errors."""


class PaperError(LaterError):
    """A checker does not accept a value."""


class DealError(LaterError):
    """A value cannot be used, or what is asked for does not exist."""


class LiveError(LaterError):
    """A live deal refuses what it is told."""


class TextError(LaterError):
    """A text cannot be read."""


class InvalidPaper(PaperError):
    """What a checker finds wrong first, and where."""

    def __init__(self, word, at):
        self.word = word
        self.at = at


class NotUsable(DealError):
    """The parameter that is not as stated."""

    def __init__(self, word, at):
        self.word = word
        self.at = at


class Unmade(DealError):
    """A deal that shows that one deal is not made of another one."""

    def __init__(self, witness):
        self.witness = witness


class Unrecalled(DealError):
    """The first piece at which a deal lacks what a back needs."""

    def __init__(self, piece):
        self.piece = piece


class Lacking(DealError):
    """The first piece at which one deal lacks what the other one has."""

    def __init__(self, piece):
        self.piece = piece


class Uneven(DealError):
    """The first piece that two deals crowd."""

    def __init__(self, piece):
        self.piece = piece


class InvalidEvent(LiveError):
    """An event that is refused, and the reason."""

    def __init__(self, event, reason):
        self.event = event
        self.reason = reason


class NothingToUndo(LiveError):
    """How many events are lacking."""

    def __init__(self, steps):
        self.steps = steps


class InvalidText(TextError):
    """The line and the field at which a text cannot be read."""

    def __init__(self, line, field):
        self.line = line
        self.field = field


class InvalidRow(TextError):
    """A row that a desk does not take."""

    def __init__(self, row):
        self.row = row
