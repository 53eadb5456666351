"""The refusals, an error class each."""


class TooLong(Exception):
    """The text has more bytes than a text may have."""


class NoProgramme(Exception):
    """The text is no programme's: the fault's kind, and the line at which it is."""

    def __init__(self, kind, line):
        self.kind = kind
        self.line = line


class OutOfBounds(Exception):
    """There's no such lamp, or the ticks end before they begin."""


class NoneThere(Exception):
    """What's asked for isn't there."""
