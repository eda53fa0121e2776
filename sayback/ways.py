"""The ways back from a text, over the pieces that may stand at each of its places.

A way's rank is its place in the order by pieces alone, whatever the ways cost. Ways that begin alike stand together in
it, so a way can be found by its rank without a list of all ways with their pieces.
"""

from sayback.pieces import edge


class Way:
    """A way: its pieces, and what it costs."""

    def __init__(self, pieces, cost):
        self.pieces = pieces
        self.cost = cost


def how_many(pieces):
    """How many ways back there are."""
    # From each place on, and one from the end on: that of no piece. They're added up, as they may be too many to walk.
    counts = [0] * len(pieces) + [1]
    for place in range(len(pieces) - 1, -1, -1):
        counts[place] = sum([counts[place + len(piece.word.text)] for piece in pieces[place]])
    return counts[0]


def way_back(number, pieces, joins):
    """The way back of this number; there have to be so many, and few enough to walk."""
    rows = rows_of(pieces, joins)
    costs = costs_from(edge(), pieces[0], rows[0], joins)
    in_order = sorted([(cost, rank) for rank, cost in enumerate(costs)])
    cost, rank = in_order[number]
    return Way(pieces_of_rank(rank, pieces, rows), cost)


def rows_of(pieces, joins):
    """For each place and each piece there a row: what the ways from that piece on cost, by their ranks."""
    ends = pieces + [[edge()]]
    rows = [[] for pieces_here in pieces] + [[[0]]]
    for place in range(len(pieces) - 1, -1, -1):
        for piece in pieces[place]:
            behind = place + len(piece.word.text)
            rows[place].append(costs_from(piece, ends[behind], rows[behind], joins))
    return rows


def costs_from(piece, followers, rows, joins):
    """What the ways from a piece on cost, by their ranks; its followers have a row each."""
    costs = []
    for follower, row in zip(followers, rows):
        step = piece.word.cost + joins.between(piece.word.right, follower.word.left)
        costs.extend([step + cost for cost in row])
    return costs


def pieces_of_rank(rank, pieces, rows):
    """The pieces of the way of this rank."""
    chosen = []
    place = 0
    while place < len(pieces):
        piece, rank = piece_of_rank(rank, pieces[place], rows[place])
        chosen.append(piece)
        place += len(piece.word.text)
    return chosen


def piece_of_rank(rank, pieces, rows):
    """The first piece of the way of this rank among those from a place on, and its rank behind that piece."""
    for piece, row in zip(pieces, rows):
        if rank < len(row):
            return piece, rank
        rank -= len(row)
    raise ValueError("no such rank")
