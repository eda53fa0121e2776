"""What the tests share: calls put together, answers taken apart, texts made."""

from sayback.readings import answers

BEGIN = 1
WORDS = 2
JOINS = 3


def octets(text):
    """The bytes of a str or of bytes, as a list."""
    return list(text.encode("utf-8")) if isinstance(text, str) else list(text)


def begin():
    return [BEGIN]


def words(text):
    row = octets(text)
    return [WORDS, len(row)] + row


def joins(text):
    row = octets(text)
    return [JOINS, len(row)] + row


def asked(*calls):
    """The answers to the calls on one new object, a list for each call."""
    row = [number for call in calls for number in call]
    told = answers(row)
    apart = []
    place = 0
    while place < len(told):
        many = told[place]
        apart.append(told[place + 1:place + 1 + many])
        place += 1 + many
    assert place == len(told), "an answer is cut off"
    return apart


def lines(*rows):
    """The text of these lines, each with its end."""
    return "".join(row + "\n" for row in rows)


def many_words(many):
    """The text of so many different words."""
    return lines(*["r%d t%d 0 0 0" % (number, number) for number in range(many)])


def kept(keeper):
    """All that an object keeps, as plain values."""
    lexicon = [(word.reading, word.text, word.left, word.right, word.cost) for word in keeper.lexicon]
    return lexicon, keeper.joins.alone, dict(keeper.joins.costs)


def row(text):
    """The characters of a str."""
    return tuple(ord(sign) for sign in text)
