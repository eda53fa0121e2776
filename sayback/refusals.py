"""The refusals: an error class for each."""


class WrongLength(Exception):
    """A text of more bytes than may be; a text of no sign, or of more than may be."""


class NoCharacter(Exception):
    """A text with a sign that's no character."""


class Faulty(Exception):
    """A text with a fault: its first line that's wrong, and the least kind of it."""

    def __init__(self, line, kind):
        Exception.__init__(self)
        self.line = line
        self.kind = kind


class TooManyWays(Exception):
    """A text with more ways back than are told."""


class NoSuchWay(Exception):
    """A number that no way back from the text has."""
