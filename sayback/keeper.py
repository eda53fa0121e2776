"""The object that the calls speak to."""

from sayback.bounds import MOST_BYTES, MOST_SIGNS, MOST_WAYS
from sayback.characters import is_character
from sayback.joins import joins_of, new_joins
from sayback.pieces import pieces_of
from sayback.refusals import NoCharacter, NoSuchWay, TooManyWays, WrongLength
from sayback.ways import how_many, way_back
from sayback.words import words_of


class Keeper:
    """A lexicon (its words in order) with its joins."""

    def __init__(self):
        self.lexicon = []
        self.joins = new_joins()

    def begin(self):
        """Be as new."""
        self.lexicon = []
        self.joins = new_joins()
        return 0

    def take_words(self, t):
        """Take the words of a lexicon's text in the place of those kept; how many."""
        check_bytes(t)
        # The text is read to its end first, so that a fault leaves the words as they are.
        self.lexicon = words_of(t)
        return len(self.lexicon)

    def take_joins(self, t):
        """Take the joins of a text in the place of those kept; how many don't cost 0."""
        check_bytes(t)
        self.joins = joins_of(t)
        return len(self.joins.costs)

    def count_ways(self, s):
        """How many ways back from a text there are."""
        return how_many(self.pieces_for(s))

    def nth_way(self, number, s):
        """The way back of this number from a text."""
        pieces = self.pieces_for(s)
        if number >= how_many(pieces):
            raise NoSuchWay()
        return way_back(number, pieces, self.joins)

    def pieces_for(self, s):
        """The pieces that may stand at each place of a text that isn't refused."""
        check_signs(s)
        pieces = pieces_of(self.lexicon, self.joins.alone, tuple(s))
        if how_many(pieces) > MOST_WAYS:
            raise TooManyWays()
        return pieces


def check_bytes(t):
    """Refuse a text that's too long before anything in it is looked at."""
    if len(t) > MOST_BYTES:
        raise WrongLength()


def check_signs(s):
    """Refuse a text of no sign or of too many before any of them is looked at, then one with a sign that's none."""
    if not 1 <= len(s) <= MOST_SIGNS:
        raise WrongLength()
    if not all([is_character(sign) for sign in s]):
        raise NoCharacter()
