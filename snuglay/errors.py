"""The errors of the package."""


class LayError(Exception):
    """The base class of all errors of the package."""


class BadValue(LayError):
    """The argument at this position is not as described."""

    def __init__(self, at):
        self.at = at


class BadText(LayError):
    """The line with this number does not fit in the text of a job."""

    def __init__(self, at):
        self.at = at


class BadPaper(LayError):
    """The line with this number does not fit in a right paper."""

    def __init__(self, at):
        self.at = at


class NoPiece(LayError):
    """There is no piece of this name."""

    def __init__(self, name):
        self.name = name


class TakenName(LayError):
    """There is a piece of this name already."""

    def __init__(self, name):
        self.name = name


class TooMany(LayError):
    """The pieces would be too many for a job."""
