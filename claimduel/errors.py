"""The errors of the package. Each keeps its fields as they were passed."""


class DuelError(ValueError):
    """The base of all errors of the package."""


class BadNumber(DuelError):
    def __init__(self, part):
        self.part = part


class BadName(DuelError):
    def __init__(self, part):
        self.part = part


class BadForm(DuelError):
    def __init__(self, part):
        self.part = part


class BadClaim(DuelError):
    def __init__(self, part):
        self.part = part


class BadSetting(DuelError):
    def __init__(self, part):
        self.part = part


class BadLayout(DuelError):
    def __init__(self, part):
        self.part = part


class BadRow(DuelError):
    def __init__(self, part):
        self.part = part


class BadMove(DuelError):
    def __init__(self, part):
        self.part = part


class BadDuel(DuelError):
    def __init__(self, part):
        self.part = part


class BadBook(DuelError):
    def __init__(self, part):
        self.part = part


class BadRule(DuelError):
    def __init__(self, part):
        self.part = part


class BadProgram(DuelError):
    def __init__(self, part):
        self.part = part


class BadPaper(DuelError):
    def __init__(self, part):
        self.part = part


class Misfit(DuelError):
    """What is passed does not fit together."""

    def __init__(self, part):
        self.part = part


class Missing(DuelError):
    """A value that is none here; only what stands below it is raised."""

    def __init__(self, value):
        self.value = value


class NoName(Missing):
    """A name that nothing is told for."""

    def __init__(self, value):
        self.value = value


class Twice(DuelError):
    """A value that stands there already."""

    def __init__(self, value):
        self.value = value


class TooMany(DuelError):
    """There are more than most."""

    def __init__(self, what, most):
        self.what = what
        self.most = most


class Nothing(DuelError):
    """There is nothing to be done."""


class Over(DuelError):
    """A duel is over."""


class BadText(DuelError):
    """A text of which the item with this index cannot stand in this line."""

    def __init__(self, line, item):
        self.line = line
        self.item = item


class BadLine(DuelError):
    """A line, and the error that was raised there."""

    def __init__(self, line, error):
        self.line = line
        self.error = error
