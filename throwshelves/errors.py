"""All errors of the package. Each keeps its fields as they were handed in."""


class RingError(ValueError):
    """The base class of all errors of the package."""


class PaperError(RingError):
    """The family of what checkers find."""


class ShelfError(RingError):
    """The family of what cannot be done with the values at hand."""


class LiveError(RingError):
    """The family of what a live ring refuses."""


class TextError(RingError):
    """The family of lines that cannot be read."""


class InvalidPaper(PaperError):
    """A checker does not accept a value: the word says why, at says where."""

    def __init__(self, word, at):
        self.word = word
        self.at = at


class NotUsable(ShelfError):
    """The parameter called word is not as stated, at its index at, or -1."""

    def __init__(self, word, at):
        self.word = word
        self.at = at


class Unheld(ShelfError):
    """A table does not hold, for this stretch."""

    def __init__(self, stretch):
        self.stretch = stretch


class Lost(ShelfError):
    """Several words have the told digits; within is a difference of two."""

    def __init__(self, within):
        self.within = within


class Torn(ShelfError):
    """No word has the told digits; ways are the multiples that show it."""

    def __init__(self, ways):
        self.ways = ways


class Barred(ShelfError):
    """What is wished for does not exist, as the bar shows."""

    def __init__(self, bar):
        self.bar = bar


class InvalidEvent(LiveError):
    """An event is refused for this reason."""

    def __init__(self, event, reason):
        self.event = event
        self.reason = reason


class NothingToUndo(LiveError):
    """There are fewer events than the steps that were to be undone."""

    def __init__(self, steps):
        self.steps = steps


class InvalidText(TextError):
    """A word cannot stand: field is its index in the line."""

    def __init__(self, line, field):
        self.line = line
        self.field = field


class InvalidRow(TextError):
    """A row cannot stand."""

    def __init__(self, row):
        self.row = row
