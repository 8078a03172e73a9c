"""All errors of the package, by family. Each keeps the very objects that it was given."""


class MumError(ValueError):
    """The base class of all errors."""


class PaperError(MumError):
    """A paper is not accepted."""


class HouseError(MumError):
    """A value does not fit a house or a hall."""


class ServiceError(MumError):
    """A service cannot do what it is asked for."""


class TextError(MumError):
    """A text cannot be read."""


class InvalidPaper(PaperError):
    """A checker refuses a value: word says why, at says where."""

    def __init__(self, word, at):
        self.word = word
        self.at = at


class UnfitExpression(HouseError):
    """The part of an expression at this path is wrong."""

    def __init__(self, path):
        self.path = path


class InvalidGrouping(HouseError):
    """A grouping, or what is asked of one, is wrong: word says why, at says where."""

    def __init__(self, word, at):
        self.word = word
        self.at = at


class InvalidHall(HouseError):
    """A hall, or what is asked of one, is wrong: word says why, at says where."""

    def __init__(self, word, at):
        self.word = word
        self.at = at


class UnknownAsker(HouseError):
    """This is none of the askers."""

    def __init__(self, asker):
        self.asker = asker


class InvalidEvent(ServiceError):
    """This event is not possible, for this reason."""

    def __init__(self, event, reason):
        self.event = event
        self.reason = reason


class NothingToUndo(ServiceError):
    """There are only so many events to take back."""

    def __init__(self, steps):
        self.steps = steps


class InvalidText(TextError):
    """The word with the index field, in the line with the index line, is not possible or missing."""

    def __init__(self, line, field):
        self.line = line
        self.field = field


class InvalidRow(TextError):
    """A desk does not know this row."""

    def __init__(self, row):
        self.row = row
