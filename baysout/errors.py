"""The errors of the package, each directly below FenceError.

The words of an error never show its fields: they may be any values, also integers
of so many digits that Python refuses to write them.
"""


class FenceError(ValueError):
    """The base of all errors of the package; nothing is made of it alone."""


class BadNumber(FenceError):
    """A parameter that is no integer, or none within its bounds."""

    def __init__(self, part):
        super().__init__("no integer, or not within its bounds")
        self.part = part


class BadPoint(FenceError):
    """A parameter that is no point."""

    def __init__(self, part):
        super().__init__("no point")
        self.part = part


class BadFence(FenceError):
    """A parameter that is no fence."""

    def __init__(self, part):
        super().__init__("no fence")
        self.part = part


class BadMouth(FenceError):
    """A parameter that is no mouth of the fence."""

    def __init__(self, part):
        super().__init__("no mouth of the fence")
        self.part = part


class BadFilm(FenceError):
    """A parameter that is no film, or no other list that was wanted."""

    def __init__(self, part):
        super().__init__("no film, or no such list")
        self.part = part


class BadWord(FenceError):
    """A parameter that is no word."""

    def __init__(self, part):
        super().__init__("no word")
        self.part = part


class BadName(FenceError):
    """A parameter that is no name."""

    def __init__(self, part):
        super().__init__("no name")
        self.part = part


class BadPaper(FenceError):
    """A parameter that is no paper."""

    def __init__(self, part):
        super().__init__("no paper")
        self.part = part


class Misfit(FenceError):
    """A parameter that does not fit together with the others."""

    def __init__(self, part):
        super().__init__("does not fit together")
        self.part = part


class NoName(FenceError):
    """A value that is the name of nothing that is kept."""

    def __init__(self, value):
        super().__init__("nothing of this name is kept")
        self.value = value


class Twice(FenceError):
    """A value that stands there already."""

    def __init__(self, value):
        super().__init__("stands there already")
        self.value = value


class TooMany(FenceError):
    """There are more of something than most."""

    def __init__(self, what, most):
        super().__init__("more than there may be")
        self.what = what
        self.most = most


class BadText(FenceError):
    """A text whose item of this number cannot stand; line is always 0."""

    def __init__(self, line, item):
        super().__init__("an item of the text cannot stand, or is missing")
        self.line = line
        self.item = item


class BadLine(FenceError):
    """The number of a line, and the error that was raised there."""

    def __init__(self, line, error):
        super().__init__("an error was raised at a line")
        self.line = line
        self.error = error
