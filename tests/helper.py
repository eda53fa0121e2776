"""What the tests share: calls put together, answers taken apart, texts made."""

from sayback.readings import answers

BEGIN = 1
WORDS = 2
JOINS = 3
MANY = 4
NTH = 5
READING = 6

RUN_WORDS = "a A 1 1 10\naa B 2 2 25\nab AD 1 3 12\nb D 3 3 5\n"
RUN_JOINS = "40\n1 3 9\n"


def octets(text):
    """The bytes of a str or of bytes, as a list."""
    return list(text.encode("utf-8")) if isinstance(text, str) else list(text)


def begin():
    return [BEGIN]


def words(text):
    row = octets(text)
    return [WORDS, len(row)] + row


def joins(text):
    row = octets(text)
    return [JOINS, len(row)] + row


def signs(text):
    """The signs of a str, or of a list of numbers."""
    return [ord(sign) for sign in text] if isinstance(text, str) else list(text)


def many(text):
    row = signs(text)
    return [MANY, len(row)] + row


def nth(number, text):
    row = signs(text)
    return [NTH, number, len(row)] + row


def reading(number, text):
    row = signs(text)
    return [READING, number, len(row)] + row


def asked(*calls):
    """The answers to the calls on one new object, a list for each call."""
    row = [number for call in calls for number in call]
    told = answers(row)
    apart = []
    place = 0
    while place < len(told):
        length = told[place]
        apart.append(told[place + 1:place + 1 + length])
        place += 1 + length
    assert place == len(told), "an answer is cut off"
    return apart


def ways_told(before, text):
    """All ways back from a text behind these calls, in order: (cost, pieces, reading), or what refuses it, a number."""
    told = asked(*before, many(text))[-1]
    assert len(told) == 1, "many answers one number"
    if told[0] < 0:
        return told[0]
    ways = []
    # A list has at most 300 calls.
    for start in range(0, told[0], 128):
        numbers = range(start, min(start + 128, told[0]))
        both = [call for number in numbers for call in (nth(number, text), reading(number, text))]
        answered = asked(*before, *both)[len(before):]
        ways += [way_told(way, sounds) for way, sounds in zip(answered[::2], answered[1::2])]
    return ways


def way_told(way, sounds):
    """One way as nth and reading told it: its cost, of each piece its two numbers, and the sounds."""
    assert len(way) == 2 + 2 * way[0], "a way has as many pieces as it tells"
    assert len(sounds) == 1 + sounds[0], "a reading has as many sounds as it tells"
    return way[1], list(zip(way[2::2], way[3::2])), sounds[1:]


def lines(*rows):
    """The text of these lines, each with its end."""
    return "".join(row + "\n" for row in rows)


def many_words(many):
    """The text of so many different words."""
    return lines(*["r%d t%d 0 0 0" % (number, number) for number in range(many)])


def kept(keeper):
    """All that an object keeps, as plain values."""
    lexicon = [(word.reading, word.text, word.left, word.right, word.cost) for word in keeper.lexicon]
    return lexicon, keeper.joins.alone, dict(keeper.joins.costs)


def row(text):
    """The characters of a str."""
    return tuple(ord(sign) for sign in text)
