"""The errors that the package raises."""


class FigureError(ValueError):
    """A value, a text or a question that is not right."""


class BadText(FigureError):
    """A text that has not the form that is read; place is its first wrong place."""

    def __init__(self, place):
        self.place = place


class BadTree(FigureError):
    """A value that is not what it should be; path leads to its first wrong part."""

    def __init__(self, path):
        self.path = tuple(path)


class TooGreat(FigureError):
    """Something that is beyond a told size."""


class NotBuilt(FigureError):
    """A figure that is not built at a position; step is the first one that can't be done."""

    def __init__(self, step):
        self.step = step


class BadAct(FigureError):
    """An act that cannot be done; word tells why."""

    def __init__(self, word):
        self.word = word


class BadAsk(FigureError):
    """A question that has no answer; word tells why."""

    def __init__(self, word):
        self.word = word


class NothingDone(FigureError):
    """Nothing is there that could be taken back, or done again."""


class NameMissing(LookupError):
    """Something is asked for by what is not there."""


class UnknownName(NameMissing):
    """Nothing has this name."""

    def __init__(self, name):
        self.name = name
