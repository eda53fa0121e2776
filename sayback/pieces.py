"""The pieces that ways are made of."""

from sayback.words import Word


class Piece:
    """A word with its number; or a sound by itself, as a word of just that sound, its number -1."""

    def __init__(self, number, word):
        self.number = number
        self.word = word


def pieces_of(lexicon, alone, signs):
    """For each place of a text (a tuple of signs), the pieces that may stand there, in their order."""
    return [pieces_at(lexicon, alone, signs, place) for place in range(len(signs))]


def pieces_at(lexicon, alone, signs, place):
    """The pieces that may stand at a place: those that write more signs first."""
    pieces = [Piece(number, word) for number, word in enumerate(lexicon) if stands_at(word, signs, place)]
    pieces.append(by_itself(signs[place], alone))
    # Of as many signs they stay as they stood: the words by their numbers, then the sound by itself.
    return sorted(pieces, key=lambda piece: -len(piece.word.text))


def stands_at(word, signs, place):
    """Whether the word's text stands at a place."""
    return signs[place:place + len(word.text)] == word.text


def by_itself(sound, alone):
    """The piece of a sound by itself, which costs so much."""
    return Piece(-1, Word((sound,), (sound,), 0, 0, alone))


def edge():
    """What stands before the first and behind the last piece: sort 0, and nothing else."""
    return Piece(-1, Word((), (), 0, 0, 0))
