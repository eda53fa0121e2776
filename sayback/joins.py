"""The joins, and their text."""

from sayback.bounds import MOST_COST, MOST_SORT
from sayback.lines import lines_of, number_of, parts_of
from sayback.refusals import Faulty


class Joins:
    """What a sound costs by itself, and the joins that don't cost 0, by right and left sort."""

    def __init__(self, alone, costs):
        self.alone = alone
        self.costs = costs

    def between(self, right, left):
        """What the join of a right and a left sort costs."""
        return self.costs.get((right, left), 0)


def new_joins():
    """The joins that stand at a line's beginning."""
    return Joins(MOST_COST, {})


def joins_of(t):
    """The joins of the joins' text."""
    lines, behind = lines_of(t)
    if not lines:
        raise Faulty(0, 1)
    alone = alone_of(lines[0])
    told = {}
    for number, line in enumerate(lines[1:], start=1):
        right, left, cost = numbers_of(line, number, 3)
        if max(right, left) > MOST_SORT or cost > MOST_COST:
            raise Faulty(number, 2)
        if (right, left) in told:
            raise Faulty(number, 3)
        told[(right, left)] = cost
    if behind:
        raise Faulty(len(lines), 1)
    return Joins(alone, without_free(told))


def alone_of(line):
    """What a sound costs by itself, as the first line tells."""
    cost = numbers_of(line, 0, 1)[0]
    if cost > MOST_COST:
        raise Faulty(0, 2)
    return cost


def numbers_of(line, number, many):
    """The numbers of a line that has to have so many."""
    numbers = [number_of(part) for part in parts_of(line)]
    if len(numbers) != many or None in numbers:
        raise Faulty(number, 1)
    return numbers


def without_free(told):
    """The joins told that don't cost 0."""
    costs = {}
    for sorts, cost in told.items():
        if cost > 0:
            costs[sorts] = cost
    return costs
