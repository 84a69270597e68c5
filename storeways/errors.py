"""The refusals: two families of errors, each refusal with its fields."""


class WayError(ValueError):
    """What is handed in isn't so."""


class LostError(LookupError):
    """What is asked for isn't there."""


class NoPaper(WayError):
    """A checker doesn't let it by."""

    def __init__(self, word, at):
        self.word = word
        self.at = at


class NoCode(WayError):
    """It is no such part of CODE."""

    def __init__(self, word):
        self.word = word


class NoTurning(WayError):
    """There is no such TURNING."""

    def __init__(self, word):
        self.word = word


class NoText(WayError):
    """The text writes no such thing."""

    def __init__(self, line, word):
        self.line = line
        self.word = word


class NoLine(WayError):
    """The row is of no form that a desk knows."""

    def __init__(self, row):
        self.row = row


class NoPlace(LostError):
    """There is no such PLACE."""

    def __init__(self, place):
        self.place = place


class NoRoutine(LostError):
    """There is no such routine."""

    def __init__(self, name):
        self.name = name


class NoBack(LostError):
    """There are not so many EDITS."""

    def __init__(self, times):
        self.times = times
