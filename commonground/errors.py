"""The errors of the program."""


class GroundError(ValueError):
    """The base class of all errors of the program."""


class BadModel(GroundError):
    """An unknown, a label, a body or a goal is not as stated."""


class BadText(GroundError):
    """A text is not as stated, at a word of a line."""

    def __init__(self, line, word):
        self.line = line
        self.word = word


class Taken(GroundError):
    """A name or label exists already."""

    def __init__(self, what):
        self.what = what


class NoSuch(GroundError):
    """What was named by a label, a name or a number does not exist."""

    def __init__(self, what):
        self.what = what


class Refused(GroundError):
    """What was offered is not admitted."""


class NotASolution(GroundError):
    """The point that was shown is no solution."""


class TooLarge(GroundError):
    """A limit of size is exceeded."""


class Unfinished(GroundError):
    """The answer is not known yet."""


class Stopped(GroundError):
    """A pen has no room left."""
