"""The interface: calls in one list of numbers, answered in another."""

from sayback.keeper import Keeper
from sayback.refusals import Faulty, TooLong

BEGIN = 1
WORDS = 2
JOINS = 3


def answers(calls):
    """For each call on one new object, how many numbers are answered, then these."""
    keeper = Keeper()
    told = []
    place = 0
    while place < len(calls):
        number, row, place = call_at(calls, place)
        answer = answer_or_refusal(keeper, number, row)
        told.append(len(answer))
        told.extend(answer)
    return told


def call_at(calls, place):
    """The number of the call at a place, its row (empty where it has none), and the place behind it."""
    number = calls[place]
    if number == BEGIN:
        return number, [], place + 1
    start = place + 2
    end = start + calls[place + 1]
    return number, calls[start:end], end


def answer_or_refusal(keeper, number, row):
    """The numbers that are answered to a call, also if it's refused."""
    try:
        return answer_of(keeper, number, row)
    except TooLong:
        return [-1]
    except Faulty as fault:
        return [-2, fault.line, fault.kind]


def answer_of(keeper, number, row):
    """The numbers that are answered to a call that isn't refused."""
    if number == BEGIN:
        return [keeper.begin()]
    if number == WORDS:
        return [keeper.take_words(row)]
    if number == JOINS:
        return [keeper.take_joins(row)]
    raise ValueError("no such call")
