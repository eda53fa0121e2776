"""Words, their order, and a lexicon's text."""

from sayback.bounds import MOST_CHARACTERS, MOST_COST, MOST_SORT, MOST_WORDS
from sayback.characters import characters_of, may_stand_in_word
from sayback.lines import lines_of, number_of, parts_of
from sayback.refusals import Faulty


class Word:
    """A word: its reading and text are tuples of characters."""

    def __init__(self, reading, text, left, right, cost):
        self.reading = reading
        self.text = text
        self.left = left
        self.right = right
        self.cost = cost

    def keeps_bounds(self):
        """Whether nothing of it is longer or greater than may be."""
        longest = max(len(self.reading), len(self.text))
        return longest <= MOST_CHARACTERS and max(self.left, self.right) <= MOST_SORT and self.cost <= MOST_COST


def words_of(t):
    """The words of a lexicon's text, in order."""
    lines, behind = lines_of(t)
    words = []
    told = {}
    for number, line in enumerate(lines):
        word = word_of(line)
        kind = kind_of_fault(word, told, number)
        if kind > 0:
            raise Faulty(number, kind)
        told[(word.reading, word.text)] = True
        words.append(word)
    if behind:
        raise Faulty(len(lines), 1)
    return in_order(words)


def kind_of_fault(word, told, number):
    """The least kind of fault of a line that tells this word (or None), or 0 if it isn't wrong."""
    if word is None:
        return 1
    if not word.keeps_bounds():
        return 2
    if (word.reading, word.text) in told:
        return 3
    if number >= MOST_WORDS:
        return 4
    return 0


def word_of(line):
    """The word that a line tells, within the bounds or not, or None if the line has not the form."""
    parts = parts_of(line)
    if len(parts) != 5:
        return None
    reading = row_of(parts[0])
    text = row_of(parts[1])
    numbers = [number_of(part) for part in parts[2:]]
    if reading is None or text is None or None in numbers:
        return None
    return Word(reading, text, numbers[0], numbers[1], numbers[2])


def row_of(part):
    """The characters of a reading or a text, or None if the part can be neither."""
    characters = characters_of(part)
    if not characters or not all([may_stand_in_word(character) for character in characters]):
        return None
    return tuple(characters)


def in_order(words):
    """The words by their readings, of one reading by their costs, of one cost by their texts."""
    return sorted(words, key=lambda word: (word.reading, word.cost, word.text))
