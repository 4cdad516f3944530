"""All errors of the package. Each one keeps its fields, any values, in attributes of their names."""


class FlipError(ValueError):
    """The base of all errors of the package; nothing is made of it alone."""


class BadNumber(FlipError):
    """An argument that is no integer, or not within the bounds."""

    def __init__(self, part):
        self.part = part


class BadWord(FlipError):
    """An argument that is no word, or not one of those that are asked for."""

    def __init__(self, part):
        self.part = part


class BadBits(FlipError):
    """An argument that is no lot of bits."""

    def __init__(self, part):
        self.part = part


class BadMachine(FlipError):
    """An argument that is no machine, or of which none can be made."""

    def __init__(self, part):
        self.part = part


class BadLayout(FlipError):
    """An argument that is no layout, or of which none can be made."""

    def __init__(self, part):
        self.part = part


class BadCode(FlipError):
    """An argument that is no code, or of which none can be made."""

    def __init__(self, part):
        self.part = part


class BadPhases(FlipError):
    """An argument that is no phases."""

    def __init__(self, part):
        self.part = part


class BadStore(FlipError):
    """An argument that is no store, or of which none can be made."""

    def __init__(self, part):
        self.part = part


class BadDeed(FlipError):
    """An argument that is no deed, or no values of a store."""

    def __init__(self, part):
        self.part = part


class BadBook(FlipError):
    """An argument that is no book, no card, or of which none can be made."""

    def __init__(self, part):
        self.part = part


class BadPaper(FlipError):
    """An argument that is no paper of the class that is asked for."""

    def __init__(self, part):
        self.part = part


class Misfit(FlipError):
    """An argument that does not fit together with the others."""

    def __init__(self, part):
        self.part = part


class NoName(FlipError):
    """A name of nothing that is kept."""

    def __init__(self, value):
        self.value = value


class Twice(FlipError):
    """A value that stands there already."""

    def __init__(self, value):
        self.value = value


class TooMany(FlipError):
    """There are more than most."""

    def __init__(self, what, most):
        self.what = what
        self.most = most


class BadText(FlipError):
    """An item of a text that cannot stand there; line is always 0."""

    def __init__(self, line, item):
        self.line = line
        self.item = item


class BadLine(FlipError):
    """The number of a line of a script or a story, and the error that was raised there."""

    def __init__(self, line, error):
        self.line = line
        self.error = error
