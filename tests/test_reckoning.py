"""The ways back held against a second way of reckoning: all ways one by one, then sorted."""

import random
import unittest

from helper import asked, joins, lines, many, nth, reading, ways_told, words

ALONE = -1


class Told:
    """A lexicon and joins, as plain tuples and a dict, with the calls that tell them."""

    def __init__(self, rows, alone, costs):
        # (reading, cost, text, left, right): as tuples they stand in the order of words.
        self.rows = sorted((row[0], row[4], row[1], row[2], row[3]) for row in rows)
        self.alone = alone
        self.costs = costs
        joined = ["%d %d %d" % (right, left, cost) for (right, left), cost in costs.items()]
        self.before = (words(lines(*["%s %s %d %d %d" % row for row in rows])), joins(lines(str(alone), *joined)))

    def pieces(self, signs):
        """Every piece that may stand in a text of these signs: (text, number, reading, left, right, cost)."""
        found = [(sign, ALONE, sign, 0, 0, self.alone) for sign in sorted(set(signs))]
        for number, (sounds, cost, text, left, right) in enumerate(self.rows):
            found.append((text, number, sounds, left, right, cost))
        return found

    def cost(self, way):
        """What a way costs."""
        sorts = [0] + [sort for text, number, sounds, left, right, cost in way for sort in (left, right)] + [0]
        joined = sum(self.costs.get(pair, 0) for pair in zip(sorts[::2], sorts[1::2]))
        return joined + sum(piece[5] for piece in way)

    def ways_back(self, signs):
        """All ways back from a text, in order, as ways_told tells them."""
        pieces = self.pieces(signs)
        done, open_ways = [], [("", ())]
        while open_ways:
            longer = [(text + piece[0], way + (piece,)) for text, way in open_ways for piece in pieces
                      if signs.startswith(text + piece[0])]
            done += [way for text, way in longer if text == signs]
            open_ways = [(text, way) for text, way in longer if text != signs]
        # Signs are counted below 0, so that more of them come first; a sound by itself comes behind any word.
        keys = {way: (self.cost(way), [(-len(piece[0]), piece[1] % 1000) for piece in way]) for way in done}
        told = []
        for way in sorted(done, key=keys.get):
            sounds = [ord(sound) for piece in way for sound in piece[2]]
            told.append((self.cost(way), [(len(piece[2]), piece[1]) for piece in way], sounds))
        return told


def row_from(chance, alphabet, longest):
    return "".join(chance.choice(alphabet) for each in range(chance.randint(1, longest)))


def told_from(chance, alphabet, costs):
    """A small lexicon with its joins, in which costs are often the same."""
    rows = {}
    for each in range(chance.randrange(9)):
        sounds, text = row_from(chance, alphabet, 3), row_from(chance, alphabet, 4)
        rows[(sounds, text)] = (sounds, text, chance.randrange(3), chance.randrange(3), chance.choice(costs))
    pairs = {(chance.randrange(3), chance.randrange(3)): chance.choice(costs) for each in range(chance.randrange(6))}
    return Told(list(rows.values()), chance.choice(costs), pairs)


class TestReckoning(unittest.TestCase):
    def check(self, seed, alphabet, costs, times):
        chance = random.Random(seed)
        for each in range(times):
            told = told_from(chance, alphabet, costs)
            text = row_from(chance, alphabet, 6)
            wanted = told.ways_back(text)
            found = ways_told(told.before, text)
            self.assertEqual(found, wanted if len(wanted) <= 1024 else -6, (told.rows, told.alone, told.costs, text))

    def test_of_one_or_two_costs(self):
        self.check(1, "ab", (0,), 100)
        self.check(2, "ab", (0, 1), 250)

    def test_of_several_costs(self):
        self.check(3, "abc", (0, 1, 2, 3, 5), 250)
        self.check(4, "ABab", (0, 10, 20, 30, 40, 65535), 250)

    def test_of_one_sign(self):
        self.check(5, "a", (0, 1, 2), 150)

    def test_of_signs_far_apart(self):
        self.check(6, "a\u00e9\u65e5\U0001f600", (0, 1, 2, 4), 150)

    def test_the_second_way_keeps_to_the_run(self):
        rows = [("a", "A", 1, 1, 10), ("aa", "B", 2, 2, 25), ("ab", "AD", 1, 3, 12), ("b", "D", 3, 3, 5)]
        found = [(cost, "".join(map(chr, sounds)))
                 for cost, pieces, sounds in Told(rows, 40, {(1, 3): 9}).ways_back("AD")]
        self.assertEqual(found, [(12, "ab"), (24, "ab"), (45, "Ab"), (50, "aD"), (80, "AD")])


class TestTurnedBack(unittest.TestCase):
    def test_whatever_was_written_is_turned_back(self):
        chance = random.Random(7)
        for each in range(300):
            told = told_from(chance, "abcd", (0, 1, 2, 3))
            pieces = told.pieces("abcd")
            way = [chance.choice(pieces) for piece in range(chance.randint(1, 6))]
            text = "".join(piece[0] for piece in way)
            sounds = [ord(sound) for piece in way for sound in piece[2]]
            wanted = (told.cost(way), [(len(piece[2]), piece[1]) for piece in way], sounds)
            found = ways_told(told.before, text)
            if found != -6:
                self.assertEqual(found.count(wanted), 1, (told.rows, told.alone, told.costs, text))

    def test_there_is_a_way_back_always(self):
        chance = random.Random(8)
        for each in range(300):
            told = told_from(chance, "ab", (0, 1))
            text = row_from(chance, "abc", 24)
            found = asked(*told.before, many(text), nth(0, text), reading(0, text))[2:]
            if found[0] == [-6]:
                self.assertEqual(found, [[-6]] * 3)
            else:
                self.assertTrue(1 <= found[0][0] <= 1024 and found[1][0] > 0 and found[2][0] > 0, found)


if __name__ == "__main__":
    unittest.main()
