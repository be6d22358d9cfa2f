"""The errors of the package.

Their fields may be any values, so no wording is made of them here: to write a value may itself fail.
"""


class FieldError(ValueError):
    """The base of all errors of the package."""


class BadNumber(FieldError):
    """No integer, or one that is not within its bounds."""

    def __init__(self, part):
        self.part = part


class BadSquare(FieldError):
    """No square."""

    def __init__(self, part):
        self.part = part


class BadKind(FieldError):
    """No kind, or what no kind can be made of."""

    def __init__(self, part):
        self.part = part


class BadGame(FieldError):
    """No game, or what no game can be made of."""

    def __init__(self, part):
        self.part = part


class BadPosition(FieldError):
    """No position, or what no position can be made of."""

    def __init__(self, part):
        self.part = part


class BadMove(FieldError):
    """No move."""

    def __init__(self, part):
        self.part = part


class BadPlay(FieldError):
    """No play."""

    def __init__(self, part):
        self.part = part


class BadPaper(FieldError):
    """No paper of the class that is wanted, or not a right one."""

    def __init__(self, part):
        self.part = part


class BadWords(FieldError):
    """No word out of the told ones."""

    def __init__(self, part):
        self.part = part


class Misfit(FieldError):
    """What does not fit together with the rest."""

    def __init__(self, part):
        self.part = part


class NoName(FieldError):
    """A name of nothing that is there."""

    def __init__(self, value):
        self.value = value


class Twice(FieldError):
    """A value that stands there already."""

    def __init__(self, value):
        self.value = value


class TooMany(FieldError):
    """There are more of something than most."""

    def __init__(self, what, most):
        self.what = what
        self.most = most


class Nothing(FieldError):
    """There is nothing to be done."""

    def __init__(self):
        FieldError.__init__(self, "there is nothing to be done")


class Over(FieldError):
    """A play is over."""

    def __init__(self):
        FieldError.__init__(self, "the play is over")


class BadText(FieldError):
    """No text of the form that is wanted: the line and the item that cannot stand."""

    def __init__(self, line, item):
        self.line = line
        self.item = item


class BadLine(FieldError):
    """A line, and the error that was raised there."""

    def __init__(self, line, error):
        self.line = line
        self.error = error
