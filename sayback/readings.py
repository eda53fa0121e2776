"""The interface: calls in one list of numbers, answered in another."""

from sayback.keeper import Keeper
from sayback.refusals import Faulty, NoCharacter, NoSuchWay, TooManyWays, WrongLength

BEGIN = 1
WORDS = 2
JOINS = 3
MANY = 4
NTH = 5
READING = 6


def answers(calls):
    """For each call on one new object, how many numbers are answered, then these."""
    keeper = Keeper()
    told = []
    place = 0
    while place < len(calls):
        number, i, row, place = call_at(calls, place)
        answer = answer_or_refusal(keeper, number, i, row)
        told.append(len(answer))
        told.extend(answer)
    return told


def call_at(calls, place):
    """The number of the call at a place, its i (0 where it has none), its row (empty likewise), the place behind it."""
    number = calls[place]
    place += 1
    if number == BEGIN:
        return number, 0, [], place
    i = 0
    if number in (NTH, READING):
        i = calls[place]
        place += 1
    start = place + 1
    end = start + calls[place]
    return number, i, calls[start:end], end


def answer_or_refusal(keeper, number, i, row):
    """The numbers that are answered to a call, also if it's refused."""
    try:
        return answer_of(keeper, number, i, row)
    except WrongLength:
        return [-1]
    except NoCharacter:
        return [-3]
    except Faulty as fault:
        return [-2, fault.line, fault.kind]
    except TooManyWays:
        return [-6]
    except NoSuchWay:
        return [-5]


def answer_of(keeper, number, i, row):
    """The numbers that are answered to a call that isn't refused."""
    if number == BEGIN:
        return [keeper.begin()]
    if number == WORDS:
        return [keeper.take_words(row)]
    if number == JOINS:
        return [keeper.take_joins(row)]
    if number == MANY:
        return [keeper.count_ways(row)]
    if number == NTH:
        return numbers_of_way(keeper.nth_way(i, row))
    if number == READING:
        return numbers_of_reading(keeper.nth_way(i, row))
    raise ValueError("no such call")


def numbers_of_way(way):
    """How many pieces a way has; what it costs; of each piece how many sounds, and its number."""
    numbers = [len(way.pieces), way.cost]
    for piece in way.pieces:
        numbers.append(len(piece.word.reading))
        numbers.append(piece.number)
    return numbers


def numbers_of_reading(way):
    """How many sounds the reading has that a way writes; they."""
    sounds = []
    for piece in way.pieces:
        sounds.extend(piece.word.reading)
    return [len(sounds)] + sounds
