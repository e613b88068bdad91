"""The errors of the program, each with exactly the fields that it is constructed with."""


class NeedError(ValueError):
    """The base class of all errors."""


class PaperError(NeedError):
    """The family of what is wrong with a paper."""


class UnitError(NeedError):
    """The family of what is wrong with a unit or another argument."""


class LinkError(NeedError):
    """The family of what keeps parts from fitting together."""


class LiveError(NeedError):
    """The family of what a bench refuses."""


class TextError(NeedError):
    """The family of what is wrong with a text."""


class InvalidPaper(PaperError):
    """The first entry of a checker's list that applies, and where."""

    def __init__(self, word, at):
        self.word = word
        self.at = at


class NotUsable(UnitError):
    """A parameter that is not what it has to be."""

    def __init__(self, word, at):
        self.word = word
        self.at = at


class Unfit(UnitError):
    """A part of a unit that keeps it from being fit."""

    def __init__(self, word, path):
        self.word = word
        self.path = path


class Missing(LinkError):
    """A title that stands for nothing."""

    def __init__(self, title):
        self.title = title


class Twice(LinkError):
    """A title that stands for two things."""

    def __init__(self, title):
        self.title = title


class Unlike(LinkError):
    """A title whose user and owner take or give different things."""

    def __init__(self, title):
        self.title = title


class Beyond(LinkError):
    """A need above the number of registers."""

    def __init__(self, need):
        self.need = need


class InvalidEvent(LiveError):
    """An event that a bench refuses, and the reason."""

    def __init__(self, event, reason):
        self.event = event
        self.reason = reason


class NothingToUndo(LiveError):
    """Fewer steps to take back than were asked for."""

    def __init__(self, steps):
        self.steps = steps


class InvalidText(TextError):
    """The line of a text that no text has there."""

    def __init__(self, line):
        self.line = line
