"""The ways back from a text: which they are, what they cost, their order, and what's refused."""

import unittest

from helper import (RUN_JOINS, RUN_WORDS, asked, begin, joins, lines, many, nth, octets, reading, signs, ways_told,
                    words)
from sayback.keeper import Keeper
from sayback.refusals import NoCharacter, NoSuchWay, TooManyWays, WrongLength

RUN = (words(RUN_WORDS), joins(RUN_JOINS))
ALONE = -1
NO_CHARACTERS = (0xD800, 0xDBFF, 0xDC00, 0xDFFF, 0x110000, 0x110001, 4294967295)
MOST = 4294967295


def one_sign_words(sign, many_words):
    """So many words that all write just this sign."""
    return ["%s%d %s 0 0 0" % (sign.lower(), number, sign) for number in range(many_words)]


def costs(ways):
    return [cost for cost, pieces, sounds in ways]


def numbers(ways):
    """Of each way the numbers of its pieces."""
    return [[number for length, number in pieces] for cost, pieces, sounds in ways]


class TestRun(unittest.TestCase):
    def test_the_text_ad(self):
        told = [[5],
                [1, 12, 2, 2], [2, ord("a"), ord("b")],
                [2, 24, 1, 0, 1, 3], [2, ord("a"), ord("b")],
                [2, 45, 1, -1, 1, 3], [2, ord("A"), ord("b")],
                [2, 50, 1, 0, 1, -1], [2, ord("a"), ord("D")],
                [2, 80, 1, -1, 1, -1], [2, ord("A"), ord("D")],
                [-5], [-5]]
        calls = [many("AD")] + [call for i in range(6) for call in (nth(i, "AD"), reading(i, "AD"))]
        self.assertEqual(asked(*RUN, *calls)[2:], told)

    def test_the_text_b(self):
        calls = [many("B"), nth(0, "B"), reading(0, "B"), nth(1, "B"), reading(1, "B"), nth(2, "B")]
        self.assertEqual(asked(*RUN, *calls)[2:],
                         [[2], [1, 25, 2, 1], [2, 97, 97], [1, 40, 1, -1], [1, 66], [-5]])

    def test_however_the_lines_of_the_words_stand(self):
        told = ways_told(RUN, "ADB")
        turned = "".join(reversed(RUN_WORDS.splitlines(keepends=True)))
        self.assertEqual(ways_told((words(turned), joins(RUN_JOINS)), "ADB"), told)
        self.assertEqual(len(told), 10)


class TestWithoutWords(unittest.TestCase):
    def test_each_sign_by_itself(self):
        for text in ("a", "ab", "aaa", "x" * 24):
            one = (65535 * len(text), [(1, ALONE)] * len(text), signs(text))
            self.assertEqual(ways_told((), text), [one])
            self.assertEqual(ways_told((begin(),), text), [one])

    def test_characters_that_stand_in_no_word(self):
        text = [0, 10, 32, 127, 0x1F, 0xD7FF, 0xE000, 0xFFFF, 0x10000, 0x10FFFF]
        self.assertEqual(ways_told((), text), [(655350, [(1, ALONE)] * 10, text)])

    def test_by_itself_as_told(self):
        for cost in (0, 1, 40, 65535):
            self.assertEqual(costs(ways_told((joins("%d\n" % cost),), "abc")), [3 * cost])

    def test_a_join_for_sorts_0_and_0(self):
        self.assertEqual(costs(ways_told((joins("10\n0 0 3\n"),), "a")), [16])
        self.assertEqual(costs(ways_told((joins("10\n0 0 3\n"),), "abc")), [42])
        self.assertEqual(costs(ways_told((joins("65535\n0 0 65535\n"),), "x" * 24)), [65535 * 49])

    def test_words_that_write_something_else(self):
        told = [(80, [(1, ALONE), (1, ALONE)], signs("CD"))]
        self.assertEqual(ways_told((words("C CE 0 0 0\nCD X 0 0 0\nD C0 0 0 0\n"), joins("40\n")), "CD"), told)


class TestLengths(unittest.TestCase):
    def check(self, text, refused):
        for before in ((), RUN):
            for call in (many(text), nth(0, text), reading(0, text), nth(MOST, text), reading(MOST, text)):
                self.assertEqual(asked(*before, call)[len(before):], [[refused]])

    def test_no_sign(self):
        self.check([], -1)

    def test_too_many_signs(self):
        for length in (25, 26, 100, 2000):
            self.check("A" * length, -1)

    def test_from_1_to_24(self):
        for length in range(1, 25):
            text = "z" * length
            told = asked(*RUN, many(text), nth(0, text), reading(0, text))[2:]
            self.assertEqual(told, [[1], [length, 40 * length] + [1, -1] * length, [length] + signs(text)])

    def test_one_text_of_each_length_in_one_list(self):
        told = asked(*[many("z" * length) for length in (0, 1, 24, 25, 2000)])
        self.assertEqual(told, [[-1], [1], [1], [-1], [-1]])


class TestNoCharacter(unittest.TestCase):
    def check(self, text, refused):
        for call in (many(text), nth(0, text), reading(0, text), nth(MOST, text), reading(MOST, text)):
            self.assertEqual(asked(call), [[refused]])
            self.assertEqual(asked(*RUN, call)[2:], [[refused]])

    def test_at_each_place(self):
        for sign in NO_CHARACTERS:
            self.check([sign], -3)
            for place in (0, 1, 12, 23):
                text = signs("A" * 24)
                text[place] = sign
                self.check(text, -3)

    def test_in_a_text_that_is_too_long(self):
        for sign in NO_CHARACTERS:
            self.check([sign] * 25, -1)
            self.check([sign] + signs("A" * 24), -1)
            self.check(signs("A" * 24) + [sign], -1)
            self.check([sign] * 2000, -1)

    def test_just_beside_those(self):
        for sign in (0, 0xD7FF, 0xE000, 0x10FFFF):
            self.assertEqual(asked(many([sign])), [[1]])


class TestTooMany(unittest.TestCase):
    def check(self, before, text, count):
        told = [count] if count <= 1024 else [-6]
        self.assertEqual(asked(*before, many(text))[-1], told)
        for call in (nth, reading):
            first, last, behind, most = asked(*before, *[call(i, text) for i in (0, 1023, 1024, MOST)])[-4:]
            if count > 1024:
                self.assertEqual([first, last, behind, most], [[-6]] * 4)
            else:
                self.assertEqual([first[0] > 0, last[0] > 0, behind, most], [True, count > 1023, [-5], [-5]])

    def test_two_for_each_sign(self):
        before = (words("a A 0 0 0\n"),)
        for length in range(1, 25):
            self.check(before, "A" * length, 2 ** length)

    def test_just_so_many(self):
        for first, second in ((31, 33), (32, 32), (25, 41), (19, 54), (16, 64)):
            before = (words(lines(*one_sign_words("X", first - 1), *one_sign_words("Y", second - 1))),)
            self.check(before, "XY", first * second)
            self.check(before, "YX", first * second)
            self.check(before, "zX.Y" + " " * 20, first * second)

    def test_all_of_them_told_at_the_bound(self):
        ways = ways_told((words("a A 1 1 1\n"), joins("2\n1 0 3\n0 1 5\n")), "A" * 10)
        self.assertEqual(len(ways), 1024)
        self.assertEqual(len({str(way) for way in ways}), 1024)
        self.assertEqual(costs(ways), sorted(costs(ways)))

    def test_more_than_can_be_walked(self):
        self.check((words(lines(*one_sign_words("A", 128))),), "A" * 24, 129 ** 24)
        self.check((words(lines(*["a %s 0 0 0" % ("A" * length) for length in range(1, 33)])),), "A" * 24, 3 ** 23 * 2)
        self.check((words("a AB 0 0 0\nb AB 0 0 0\nc AB 0 0 0\n"),), "AB" * 12, 4 ** 12)

    def test_long_words_make_fewer(self):
        before = (words("a AB 0 0 0\nb AB 0 0 0\nc AB 0 0 0\n"),)
        self.check(before, "AB" * 5, 1024)
        self.check(before, "AB" * 5 + "A", 1024)
        self.check(before, "B" + "AB" * 5, 1024)
        self.check(before, "AB" * 6, 4096)


class TestNumber(unittest.TestCase):
    def test_just_below_and_just_so_many(self):
        for text, count in (("AD", 5), ("B", 2), ("z", 1), ("ADAD", 25)):
            for call in (nth, reading):
                told = asked(*RUN, *[call(i, text) for i in (0, count - 1, count, count + 1, MOST)])[2:]
                self.assertEqual([answer[0] > 0 for answer in told], [True, True, False, False, False])
                self.assertEqual(told[2:], [[-5]] * 3)


class TestRefusalsThatMeet(unittest.TestCase):
    def check(self, before, text, refused):
        for call in (many(text), nth(0, text), reading(0, text), nth(MOST, text), reading(MOST, text)):
            self.assertEqual(asked(*before, call)[-1], [refused])

    def test_in_their_order(self):
        before = (words("a A 0 0 0\n"),)
        self.check(before, [0xD800] * 25, -1)
        self.check(before, signs("A" * 24) + [0xD800], -1)
        self.check(before, signs("A" * 25), -1)
        self.check(before, signs("A" * 23) + [0xD800], -3)
        self.check(before, [0x110000] + signs("A" * 23), -3)
        self.check(before, signs("A" * 24), -6)
        self.check(before, signs("A" * 11), -6)
        self.assertEqual(asked(*before, nth(1024, "A" * 10), reading(2048, "A" * 11), nth(2048, "A" * 11))[1:],
                         [[-5], [-6], [-6]])

    def test_the_object_tells_them_apart(self):
        keeper = Keeper()
        keeper.take_words(octets("a A 0 0 0\n"))
        for text, error in (([], WrongLength), ([0xDFFF] * 25, WrongLength), ([0xDFFF], NoCharacter),
                            (signs("A" * 11), TooManyWays), (signs("A"), NoSuchWay)):
            with self.assertRaises(error):
                keeper.nth_way(2, text)


class TestOrder(unittest.TestCase):
    def test_by_cost_first(self):
        ways = ways_told((words("a A 0 0 9\nb AB 0 0 30\n"), joins("10\n")), "AB")
        self.assertEqual((costs(ways), numbers(ways)), ([19, 20, 30], [[0, -1], [-1, -1], [1]]))

    def test_a_piece_that_writes_more_signs_first(self):
        ways = ways_told((words("a A 0 0 10\nz AB 0 0 20\ny ABC 0 0 30\n"), joins("10\n")), "ABC")
        self.assertEqual((set(costs(ways)), numbers(ways)), ({30}, [[1], [2, -1], [0, -1, -1], [-1, -1, -1]]))

    def test_it_is_the_signs_that_count_and_not_the_sounds(self):
        ways = ways_told((words("aaaa A 0 0 10\nb ABC 0 0 30\ncc AB 0 0 20\n"), joins("10\n")), "ABC")
        self.assertEqual(numbers(ways), [[1], [2, -1], [0, -1, -1], [-1, -1, -1]])
        self.assertEqual([len(sounds) for cost, pieces, sounds in ways], [1, 3, 6, 3])

    def test_a_word_before_the_sound_by_itself(self):
        ways = ways_told((words("z A 0 0 10\n"), joins("10\n")), "AA")
        self.assertEqual(numbers(ways), [[0, 0], [0, -1], [-1, 0], [-1, -1]])

    def test_of_two_words_the_lesser_number(self):
        ways = ways_told((words("c A 0 0 10\nb A 0 0 10\na A 0 0 10\n"), joins("10\n")), "A")
        self.assertEqual(numbers(ways), [[0], [1], [2], [-1]])
        self.assertEqual([sounds for cost, pieces, sounds in ways], [[97], [98], [99], [65]])

    def test_at_a_later_piece(self):
        lexicon = "c BC 0 0 20\na B 0 0 10\nb B 0 0 10\n"
        ways = ways_told((words(lexicon), joins("10\n")), "ABC")
        self.assertEqual((set(costs(ways)), numbers(ways)), ({30}, [[-1, 2], [-1, 0, -1], [-1, 1, -1], [-1, -1, -1]]))

    def test_the_first_piece_that_differs_and_not_a_later_one(self):
        ways = ways_told((words("a A 0 0 10\nb BC 0 0 20\nc AB 0 0 20\nd C 0 0 10\n"), joins("10\n")), "ABC")
        self.assertEqual(numbers(ways), [[2, 3], [2, -1], [0, 1], [0, -1, 3], [0, -1, -1],
                                         [-1, 1], [-1, -1, 3], [-1, -1, -1]])

    def test_neither_fewer_nor_more_pieces_alone(self):
        ways = ways_told((words("a AB 0 0 0\nb BCD 0 0 0\n"), joins("0\n")), "ABCD")
        self.assertEqual(numbers(ways), [[0, -1, -1], [-1, 1], [-1, -1, -1, -1]])

    def test_of_one_cost_by_different_costs_of_the_pieces(self):
        ways = ways_told((words("a A 0 0 30\nb B 0 0 0\nc A 0 0 0\nd B 0 0 30\n"), joins("65535\n")), "AB")
        self.assertEqual((costs(ways)[:4], numbers(ways)[:4]), ([0, 30, 30, 60], [[2, 1], [0, 1], [2, 3], [0, 3]]))

    def test_costs_of_0(self):
        ways = ways_told((words("a A 0 0 0\nb AA 0 0 0\n"), joins("0\n")), "AAA")
        self.assertEqual((set(costs(ways)), len(ways)), ({0}, 12))
        self.assertEqual(numbers(ways), [[1, 0], [1, -1], [0, 1], [0, 0, 0], [0, 0, -1], [0, -1, 0], [0, -1, -1],
                                         [-1, 1], [-1, 0, 0], [-1, 0, -1], [-1, -1, 0], [-1, -1, -1]])

    def test_words_are_numbered_by_reading_then_cost_then_text(self):
        lexicon = "b A 0 0 1\na B 0 0 7\na C 0 0 6\na AB 0 0 7\na A 0 0 7\naa A 0 0 0\n"
        told = {text: numbers(ways_told((words(lexicon), joins("65535\n")), text)) for text in ("A", "B", "C", "AB")}
        self.assertEqual(told, {"A": [[4], [5], [1], [-1]], "B": [[3], [-1]], "C": [[0], [-1]],
                                "AB": [[2], [4, 3], [5, 3], [1, 3], [4, -1], [5, -1], [1, -1], [-1, 3], [-1, -1]]})


class TestWhichTheyAre(unittest.TestCase):
    def test_two_ways_with_one_reading(self):
        ways = ways_told((words("A A 5 5 10\nAB AB 0 0 10\n"), joins("10\n")), "AB")
        self.assertEqual([sounds for cost, pieces, sounds in ways], [signs("AB")] * 3)
        self.assertEqual((costs(ways), numbers(ways)), ([10, 20, 20], [[1], [0, -1], [-1, -1]]))

    def test_the_shorter_word_beside_the_longest(self):
        ways = ways_told((words("a A 0 0 1\nb AB 0 0 100\nc BC 0 0 1\n"), joins("50\n")), "ABC")
        self.assertEqual((costs(ways)[0], numbers(ways)[0]), (2, [0, 2]))
        self.assertEqual(len(ways), 5)

    def test_one_text_of_several_readings(self):
        ways = ways_told((words("kou H 0 0 3\niku H 0 0 1\nyuku H 0 0 2\n"), joins("9\n")), "H")
        self.assertEqual([sounds for cost, pieces, sounds in ways],
                         [signs("iku"), signs("yuku"), signs("kou"), signs("H")])

    def test_one_reading_of_several_texts(self):
        before = (words("ha H 0 0 1\nha G 0 0 2\nha HG 0 0 3\n"), joins("9\n"))
        self.assertEqual(ways_told(before, "G"), [(2, [(2, 1)], signs("ha")), (9, [(1, ALONE)], signs("G"))])
        self.assertEqual(numbers(ways_told(before, "HG")), [[2], [0, 1], [0, -1], [-1, 1], [-1, -1]])

    def test_words_of_32_signs_and_of_24(self):
        text = "".join(chr(65 + place) for place in range(24))
        rows = ["x %s 0 0 1" % (text + "ABCDEFGH"), "y %s 0 0 2" % text, "z %sA 0 0 0" % text, "w %s 0 0 3" % text[1:]]
        ways = ways_told((words(lines(*rows)), joins("1\n")), text)
        self.assertEqual((costs(ways), numbers(ways)), ([2, 4, 24], [[2], [-1, 0], [-1] * 24]))

    def test_words_that_stand_out_beyond_the_end(self):
        self.assertEqual(numbers(ways_told((words("a AAA 0 0 0\nb AA 0 0 0\n"),), "AA")), [[1], [-1, -1]])

    def test_readings_longer_and_shorter_than_the_text(self):
        ways = ways_told((words("a ABCDEFGH 0 0 0\n" + "l" * 32 + " Z 0 0 0\n"), joins("1\n")), "ABCDEFGHZZ")
        self.assertEqual(ways[0], (0, [(1, 0), (32, 1), (32, 1)], signs("a" + "l" * 64)))
        self.assertEqual(len(ways), 8)

    def test_the_longest_reading(self):
        before = (words("l" * 32 + " Z 0 0 0\n" + "m" * 32 + " YX 0 0 0\n"), joins("1\n"))
        self.assertEqual(asked(*before, reading(0, "Z" * 10))[2], [320] + signs("l" * 320))
        self.assertEqual(asked(*before, reading(0, "YX" * 10 + "Y..X"))[2], [324] + signs("m" * 320 + "Y..X"))
        self.assertEqual(asked(*before, reading(1023, "YX" * 10 + "Y..X"))[2], [24] + signs("YX" * 10 + "Y..X"))

    def test_a_text_is_matched_by_texts_and_not_by_readings(self):
        before = (words("A B 0 0 0\nB C 0 0 0\n"), joins("40\n"))
        self.assertEqual(ways_told(before, "A"), [(40, [(1, ALONE)], signs("A"))])
        self.assertEqual(ways_told(before, "B"), [(0, [(1, 0)], signs("A")), (40, [(1, ALONE)], signs("B"))])

    def test_signs_beyond_those_of_one_byte(self):
        before = (words("\u306f\u306a \u82b1 0 0 5\n\U0001f600 \U00020bb7\u82b1 0 0 7\n"), joins("40\n"))
        ways = ways_told(before, "\U00020bb7\u82b1")
        self.assertEqual((costs(ways), numbers(ways)), ([7, 45, 80], [[1], [-1, 0], [-1, -1]]))
        self.assertEqual(ways[1][2], signs("\U00020bb7\u306f\u306a"))


class TestJoins(unittest.TestCase):
    lexicon = "a A 1 2 0\nb B 3 4 0\n"

    def check(self, told, text, cost):
        """What way number 0 costs, where a sound by itself costs 100 and these joins are told."""
        ways = ways_told((words(self.lexicon), joins("100\n" + told)), text)
        self.assertEqual(costs(ways)[0], cost)

    def test_before_the_first_piece(self):
        self.check("0 1 7\n", "A", 7)
        self.check("1 0 7\n", "A", 0)
        self.check("0 1 7\n", "AB", 7)
        self.check("0 3 7\n", "AB", 0)

    def test_behind_the_last_piece(self):
        self.check("2 0 7\n", "A", 7)
        self.check("0 2 7\n", "A", 0)
        self.check("4 0 7\n", "AB", 7)
        self.check("2 0 7\n", "AB", 0)

    def test_between_two_words(self):
        self.check("2 3 7\n", "AB", 7)
        self.check("3 2 7\n", "AB", 0)
        self.check("1 3 7\n", "AB", 0)
        self.check("2 4 7\n", "AB", 0)
        self.check("4 1 7\n", "AB", 0)
        self.check("4 1 7\n", "BA", 7)

    def test_between_a_word_and_a_sound_by_itself(self):
        self.check("2 0 7\n", "Az", 107)
        self.check("0 1 7\n", "zA", 107)
        self.check("2 0 7\n", "zA", 107)
        self.check("0 2 7\n1 0 7\n", "zAz", 200)
        self.check("2 0 7\n0 1 5\n", "zAz", 212)

    def test_at_all_places(self):
        self.check("0 1 1\n2 3 10\n4 0 50\n", "AB", 61)
        self.check("0 0 1\n2 0 4\n0 1 8\n0 3 16\n4 0 32\n", "AzB", 8 + 4 + 100 + 16 + 32)
        self.check("0 0 3\n", "zzz", 312)
        self.check("0 0 3\n", "zAzz", 309)

    def test_a_join_turns_the_order(self):
        before = "a A 1 1 10\nb A 2 2 11\n"
        self.assertEqual(numbers(ways_told((words(before), joins("40\n")), "A")), [[0], [1], [-1]])
        self.assertEqual(numbers(ways_told((words(before), joins("40\n0 1 2\n")), "A")), [[1], [0], [-1]])
        self.assertEqual(numbers(ways_told((words(before), joins("40\n1 0 30\n0 2 30\n")), "A")), [[0], [-1], [1]])

    def test_the_greatest_costs(self):
        lexicon = "a A 255 255 65535\n"
        told = "65535\n255 255 65535\n0 255 65535\n255 0 65535\n0 0 65535\n"
        ways = ways_told((words(lexicon), joins(told)), "A" * 10)
        self.assertEqual(set(costs(ways)), {65535 * 21})
        self.assertEqual(numbers(ways)[0], [0] * 10)
        self.assertEqual(numbers(ways)[-1], [-1] * 10)


class TestAskedAgain(unittest.TestCase):
    def asked_again(self, *between):
        """What's told of AD before and behind these calls on the object of the run."""
        ask = [many("AD"), nth(0, "AD"), reading(1, "AD"), nth(4, "AD")]
        told = asked(*RUN, *ask, *between, *ask)
        return told[2:6], told[-4:]

    def test_behind_refused_calls(self):
        refused = [words("x"), words("a A 0 0 0"), joins("7\n0 0 9\nx\n"), joins(""), many([]), nth(5, "AD"),
                   reading(9, "AD"), many("A" * 25), many([0xD800]), nth(0, [4294967295]), words(b"x" * 65537),
                   nth(0, "AD" * 12), reading(MOST, "AD" * 12), many("AD" * 12)]
        before, behind = self.asked_again(*refused)
        self.assertEqual(before, behind)
        self.assertEqual(before[0], [5])
        self.assertTrue(all(answer[0] < 0 for answer in asked(*RUN, *refused)[2:]))

    def test_behind_other_texts(self):
        before, behind = self.asked_again(many("B"), nth(0, "ADB"), reading(2, "DA"))
        self.assertEqual(before, behind)

    def test_behind_words(self):
        before, behind = self.asked_again(words("a A 1 1 10\nc AD 3 3 1\n"))
        self.assertEqual(behind, [[3], [1, 1, 1, 1], [2, 97, 68], [-5]])

    def test_behind_no_words(self):
        before, behind = self.asked_again(words(""))
        self.assertEqual(behind, [[1], [2, 80, 1, -1, 1, -1], [-5], [-5]])

    def test_behind_joins(self):
        before, behind = self.asked_again(joins("5\n0 1 60\n"))
        self.assertEqual(behind, [[5], [2, 10, 1, -1, 1, 3], [2, 65, 68], [2, 75, 1, 0, 1, -1]])

    def test_behind_begin(self):
        before, behind = self.asked_again(begin())
        self.assertEqual(behind, [[1], [2, 131070, 1, -1, 1, -1], [-5], [-5]])

    def test_behind_begin_and_the_same_words(self):
        before, behind = self.asked_again(begin(), *RUN)
        self.assertEqual(before, behind)


if __name__ == "__main__":
    unittest.main()
