"""The object that the calls speak to."""

from sayback.bounds import MOST_BYTES
from sayback.joins import joins_of, new_joins
from sayback.refusals import TooLong
from sayback.words import words_of


class Keeper:
    """A lexicon (its words in order) with its joins."""

    def __init__(self):
        self.lexicon = []
        self.joins = new_joins()

    def begin(self):
        """Be as new."""
        self.lexicon = []
        self.joins = new_joins()
        return 0

    def take_words(self, t):
        """Take the words of a lexicon's text in the place of those kept; how many."""
        check_length(t)
        # The text is read to its end first, so that a fault leaves the words as they are.
        self.lexicon = words_of(t)
        return len(self.lexicon)

    def take_joins(self, t):
        """Take the joins of a text in the place of those kept; how many don't cost 0."""
        check_length(t)
        self.joins = joins_of(t)
        return len(self.joins.costs)


def check_length(t):
    """Refuse a text that's too long before anything in it is looked at."""
    if len(t) > MOST_BYTES:
        raise TooLong()
