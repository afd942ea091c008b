"""The errors of the package. Each keeps its fields just as they were passed."""


class AgainError(ValueError):
    """The base of all errors of the package."""


class BadWriting(AgainError):
    """What was passed for the part is no writing, or no list of writings."""

    def __init__(self, part):
        self.part = part


class BadKind(AgainError):
    """What was passed for the part is no kind."""

    def __init__(self, part):
        self.part = part


class BadNumber(AgainError):
    """What was passed for the part is no integer, or no list of integers, that may stand there."""

    def __init__(self, part):
        self.part = part


class BadTable(AgainError):
    """What was passed for the part is no table, or does not make one."""

    def __init__(self, part):
        self.part = part


class Misfit(AgainError):
    """The arguments are right, each by itself, but do not fit together."""

    def __init__(self, part):
        self.part = part


class Missing(AgainError):
    """The value is none of those that there are here. Only the errors below are raised."""

    def __init__(self, value):
        self.value = value


class NoPlace(Missing):
    """The value is no place here."""

    def __init__(self, value):
        Missing.__init__(self, value)


class NoName(Missing):
    """The value is no name."""

    def __init__(self, value):
        Missing.__init__(self, value)


class Impossible(AgainError):
    """What was asked cannot be; the paper is a denial that shows it."""

    def __init__(self, paper):
        self.paper = paper


class TooMany(AgainError):
    """There is more of this than the most that is allowed."""

    def __init__(self, what, most):
        self.what = what
        self.most = most


class BadText(AgainError):
    """The item of the text, counted from 0, cannot stand where it stands, or is missing."""

    def __init__(self, line, item):
        self.line = line
        self.item = item
