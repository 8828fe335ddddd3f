"""The errors of the package, each with what it keeps."""


class NoName(LookupError):
    """There is no such instruction, or none of the kind that is asked for."""

    def __init__(self, name):
        self.name = name


class NoNumber(LookupError):
    """Nothing has this number."""

    def __init__(self, number):
        self.number = number


class NoEntry(LookupError):
    """A board has no ORDER of this NAME."""

    def __init__(self, name):
        self.name = name


class NoFrame(LookupError):
    """The ORDER of this NAME has no frame."""

    def __init__(self, name):
        self.name = name


class NotKnown(LookupError):
    """Nothing is known of the latency of this slow instruction."""

    def __init__(self, name):
        self.name = name


class NoOrder(ValueError):
    """A tuple of NAMEs is no ORDER of the BLOCK."""


class Needs(ValueError):
    """An instruction would need itself, or stand ahead of one that it reads."""


class Twice(ValueError):
    """Two instructions would have this NAME."""

    def __init__(self, name):
        self.name = name


class BadText(ValueError):
    """No BLOCK has this text."""


class OtherNames(ValueError):
    """Two LONGs are not of equally many instructions with the same slow ones."""


class Outside(ValueError):
    """The ORDER of this NAME would not lie within its frame."""

    def __init__(self, name):
        self.name = name


class BadLine(ValueError):
    """The line with this number is not so written, or cannot stand there."""

    def __init__(self, number):
        self.number = number


class Stopped(ValueError):
    """A deed of an attempt is refused: its number, its error's name and what that keeps."""

    def __init__(self, number, raised, value):
        self.number = number
        self.raised = raised
        self.value = value
