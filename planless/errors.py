"""The errors of the package."""

# No class hands its fields on to the base: any value may be a field, and
# Python keeps what was passed by place as the error's arguments by itself.


class PlayError(ValueError):
    """The base of all errors of the package."""


class BadNumber(PlayError):
    """No such number, weight or integer, or no such list of them."""

    def __init__(self, part):
        self.part = part


class BadPiece(PlayError):
    """No such piece or place."""

    def __init__(self, part):
        self.part = part


class BadFrame(PlayError):
    """No frame."""

    def __init__(self, part):
        self.part = part


class BadBook(PlayError):
    """No such book, or no such chances."""

    def __init__(self, part):
        self.part = part


class BadProgram(PlayError):
    """No program, or nothing to make one of."""

    def __init__(self, part):
        self.part = part


class BadPlayer(PlayError):
    """No player."""

    def __init__(self, part):
        self.part = part


class BadPaper(PlayError):
    """No such paper."""

    def __init__(self, part):
        self.part = part


class Misfit(PlayError):
    """What was passed does not fit together."""

    def __init__(self, part):
        self.part = part


class NoWay(PlayError):
    """No such way."""

    def __init__(self, value):
        self.value = value


class NoPart(PlayError):
    """No such part or choice."""

    def __init__(self, value):
        self.value = value


class TooMany(PlayError):
    """There are more of something than there may be."""

    def __init__(self, what, most):
        self.what = what
        self.most = most


class Impossible(PlayError):
    """There is none, and the paper tells why."""

    def __init__(self, paper):
        self.paper = paper


class BadText(PlayError):
    """No text of such a value: the item cannot stand where it does."""

    def __init__(self, line, item):
        self.line = line
        self.item = item
