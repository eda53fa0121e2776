"""The refusals: an error class for each."""


class TooLong(Exception):
    """A text of more bytes than may be."""


class Faulty(Exception):
    """A text with a fault: its first line that's wrong, and the least kind of it."""

    def __init__(self, line, kind):
        Exception.__init__(self)
        self.line = line
        self.kind = kind
