"""A lexicon's text, its fault, and the words that are kept."""

import itertools
import random
import re
import unittest

from helper import asked, kept, lines, many_words, octets, row, words
from sayback.keeper import Keeper
from sayback.words import words_of

GOOD = "a A 0 0 0\n"


def told_otherwise(text):
    """What is to be answered to words, worked out in another way."""
    rows = text.split(b"\n")
    behind = rows.pop()
    number = rb"(0|[1-9][0-9]*)"
    form = re.compile(rb"([^ ]+) ([^ ]+) " + number + b" " + number + b" " + number)
    seen = []
    for line, found in enumerate([form.fullmatch(each) for each in rows] + [None] * bool(behind)):
        try:
            reading, sign = found.group(1).decode("utf-8"), found.group(2).decode("utf-8")
        except (AttributeError, UnicodeDecodeError):
            return [-2, line, 1]
        if any(ord(each) < 0x21 or ord(each) == 0x7F for each in reading + sign):
            return [-2, line, 1]
        left, right, cost = [int(found.group(place)[:9]) for place in (3, 4, 5)]
        if max(len(reading), len(sign)) > 32 or left > 255 or right > 255 or cost > 65535:
            return [-2, line, 2]
        if (reading, sign) in seen:
            return [-2, line, 3]
        if line == 128:
            return [-2, line, 4]
        seen.append((reading, sign))
    return [len(seen)]


class TestLexiconsText(unittest.TestCase):
    def check(self, text, told):
        self.assertEqual(asked(words(text)), [told], text)

    def check_line(self, line, kind):
        """The line with this fault as the first one, as a later one, and as the last of 128."""
        self.check(octets(line) + octets("\n"), [-2, 0, kind])
        self.check(octets(line) + octets("\n" + GOOD), [-2, 0, kind])
        self.check(octets(GOOD) + octets(line) + octets("\n\n"), [-2, 1, kind])
        self.check(octets(many_words(127)) + octets(line) + octets("\n"), [-2, 127, kind])

    def test_how_many(self):
        self.check("", [0])
        self.check(GOOD, [1])
        for many in (2, 10, 127, 128):
            self.check(many_words(many), [many])

    def test_the_greatest_and_the_least(self):
        self.check("a A 255 255 65535\n", [1])
        self.check("a" * 32 + " " + "A" * 32 + " 0 0 0\n", [1])
        self.check("日" * 32 + " " + "😀" * 32 + " 9 10 100\n", [1])

    def test_any_character_that_may_stand_there(self):
        for sign in "!~0:\x80\x85\xa0\ud7ff\ue000\ufeff\uffff\U00010000\U0010ffff\u3000\u2028":
            self.check(sign + " A 0 0 0\n", [1])
            self.check("a " + sign + " 0 0 0\n", [1])

    def test_no_line_feed_behind_the_last(self):
        self.check(GOOD[:-1], [-2, 0, 1])
        self.check(GOOD + "b B 0 0 0", [-2, 1, 1])
        self.check(GOOD + "b B 0 0 999", [-2, 1, 1])
        self.check(GOOD + "a A 256 0 0", [-2, 1, 1])
        self.check(GOOD + "x", [-2, 1, 1])
        self.check(GOOD + " ", [-2, 1, 1])
        self.check(many_words(128) + "z Z 0 0 0", [-2, 128, 1])

    def test_empty_lines(self):
        self.check("\n", [-2, 0, 1])
        self.check(GOOD + "\n", [-2, 1, 1])
        self.check("\n" + GOOD, [-2, 0, 1])

    def test_more_and_fewer_parts(self):
        for line in ("", "a", "a A", "a A 0", "a A 0 0", "a A 0 0 0 0", "a A 0 0 0 x", "a b A 0 0 0", "0 0 0"):
            self.check_line(line, 1)

    def test_empty_parts(self):
        for line in (" A 0 0 0", "a  0 0 0", "a A  0 0", "a A 0  0", "a A 0 0 ", " a A 0 0 0", "a A 0 0 0 ",
                     "a  A 0 0 0", "a A  0 0 0", "a A 0 0  0", "    ", " "):
            self.check_line(line, 1)

    def test_numbers_that_are_none(self):
        for number in ("00", "01", "007", "+1", "-1", "-0", "1.", "1e1", "x", "1x", "x1", "/", ":", "1_0", "0x1",
                       "\u0661", "\u00b2", "\uff11", "1\t", "1\r", "1,", "0" * 400, "0256", "099999"):
            self.check_line("a A " + number + " 0 0", 1)
            self.check_line("a A 0 " + number + " 0", 1)
            self.check_line("a A 0 0 " + number, 1)

    def test_bytes_that_are_no_utf8(self):
        for wrong in (b"\x80", b"\xbf", b"\xc0\x80", b"\xc1\xbf", b"\xc3", b"\xc3a", b"\xe0\x80\x80", b"\xe0\x9f\xbf",
                      b"\xed\xa0\x80", b"\xed\xbf\xbf", b"\xe6\x97", b"\xf0\x8f\xbf\xbf", b"\xf0\x9f\x98",
                      b"\xf4\x90\x80\x80", b"\xf5\x80\x80\x80", b"\xfe", b"\xff"):
            self.check_line(wrong + b" A 0 0 0", 1)
            self.check_line(b"a" + wrong + b" A 0 0 0", 1)
            self.check_line(b"a " + wrong + b" 0 0 0", 1)
            self.check_line(b"a A 0 0 " + wrong, 1)
            self.check_line(b"a A 0 0 0" + wrong, 1)

    def test_a_character_cut_off_by_a_lines_end(self):
        self.check(b"a A 0 0 0\nb \xc3\n\xa9 0 0 0\n", [-2, 1, 1])

    def test_characters_that_may_not_stand_there(self):
        for number in list(range(0x20)) + [0x7F]:
            if number != 0x0A:
                self.check_line(bytes([number]) + b" A 0 0 0", 1)
                self.check_line(b"a" + bytes([number]) + b"b A 0 0 0", 1)
                self.check_line(b"a A" + bytes([number]) + b" 0 0 0", 1)

    def test_too_many_characters(self):
        for sign in "a日😀":
            self.check_line(sign * 33 + " A 0 0 0", 2)
            self.check_line("a " + sign * 33 + " 0 0 0", 2)
        self.check_line("a" * 5000 + " A 0 0 0", 2)

    def test_sorts_and_costs_too_great(self):
        for line in ("x X 256 0 0", "x X 0 256 0", "x X 0 0 65536", "x X 1000 0 0", "x X 0 65536 0", "x X 0 0 100000",
                     "x X 0 0 " + "9" * 5000, "x X " + "1" + "0" * 5000 + " 0 0", "x X 0 4294967296 0"):
            self.check_line(line, 2)

    def test_a_reading_and_text_twice(self):
        self.check(GOOD + GOOD, [-2, 1, 3])
        self.check(GOOD + "a A 1 2 3\n", [-2, 1, 3])
        self.check(GOOD + "b B 0 0 0\nc C 0 0 0\na A 0 0 1\n", [-2, 3, 3])
        self.check(many_words(127) + "r0 t0 0 0 0\n", [-2, 127, 3])

    def test_a_reading_or_a_text_twice(self):
        self.check(GOOD + "a B 0 0 0\na C 0 0 0\n", [3])
        self.check(GOOD + "b A 0 0 0\nc A 0 0 0\n", [3])
        self.check("a b 0 0 0\nb a 0 0 0\naa b 0 0 0\na bb 0 0 0\nab a 0 0 0\na ba 0 0 0\n", [6])

    def test_the_129th_line(self):
        self.check(many_words(129), [-2, 128, 4])
        self.check(many_words(130), [-2, 128, 4])
        self.check(many_words(200) + "\n", [-2, 128, 4])

    def test_of_one_line_the_least_kind(self):
        self.check_line("a A 256 0", 1)
        self.check_line("a" * 33 + " A 0 0 00", 1)
        self.check_line("a" * 33 + " A 256 0 x", 1)
        self.check(GOOD + "a A 256 0 0\n", [-2, 1, 2])
        self.check(GOOD + "a A 0 0 -1\n", [-2, 1, 1])
        self.check(many_words(128) + "\n", [-2, 128, 1])
        self.check(many_words(128) + "z Z 0 0 65536\n", [-2, 128, 2])
        self.check(many_words(128) + "r5 t5 0 0 0\n", [-2, 128, 3])

    def test_the_first_line_that_is_wrong(self):
        self.check(GOOD + GOOD + "x\n", [-2, 1, 3])
        self.check(GOOD + "b B 999 0 0\nx\n" + GOOD, [-2, 1, 2])
        self.check(GOOD + "x\nb B 999 0 0\n", [-2, 1, 1])
        self.check(many_words(129) + "x", [-2, 128, 4])

    def test_many_texts_against_another_way(self):
        chance = random.Random(20261119)
        parts = [b"a", b"b", "\u00e9".encode(), b"0", b"7", b"255", b"256", b"65535", b"65536", b"00", b"\xff", b"",
                 b"a" * 32, b"b" * 33, b"\x7f", b"+1"]
        for each in range(6000):
            text = b""
            for line in range(chance.randrange(5)):
                picked = [chance.choice(parts[:4]), chance.choice(parts[:4]), chance.choice(parts[3:6]),
                          chance.choice(parts[3:6]), chance.choice(parts[3:8])]
                if chance.random() < 0.15:
                    picked[chance.randrange(5)] = chance.choice(parts)
                if chance.random() < 0.05:
                    picked.append(b"0")
                text += b" ".join(picked) + (b"\n" if chance.random() < 0.97 else b"")
            self.check(text, told_otherwise(text))


class TestWordsKept(unittest.TestCase):
    def test_each_part_in_its_place(self):
        word = words_of(octets("ab\u00e9 X日 1 2 3\n"))[0]
        self.assertEqual((word.reading, word.text), (row("ab\u00e9"), row("X日")))
        self.assertEqual((word.left, word.right, word.cost), (1, 2, 3))

    def test_readings_first_then_costs_then_texts(self):
        text = lines("b A 0 0 0", "a C 0 0 7", "a B 0 0 7", "a D 0 0 6", "aa A 0 0 0", "a BA 0 0 7", "a A 0 0 100",
                     "\U00010000 A 0 0 0", "\uffff A 0 0 0", "B Z 0 0 9")
        found = [(word.reading, word.cost, word.text) for word in words_of(octets(text))]
        told = [("B", 9, "Z"), ("a", 6, "D"), ("a", 7, "B"), ("a", 7, "BA"), ("a", 7, "C"), ("a", 100, "A"),
                ("aa", 0, "A"), ("b", 0, "A"), ("\uffff", 0, "A"), ("\U00010000", 0, "A")]
        self.assertEqual(found, [(row(reading), cost, row(sign)) for reading, cost, sign in told])

    def test_however_the_lines_stand(self):
        rows = ["a A 1 1 10", "aa B 2 2 25", "ab AD 1 3 12", "b D 3 3 5"]
        for turned in itertools.permutations(rows):
            found = [word.cost for word in words_of(octets(lines(*turned)))]
            self.assertEqual(found, [10, 25, 12, 5])

    def test_words_take_the_place_of_those_before(self):
        keeper = Keeper()
        self.assertEqual(keeper.take_words(octets("a A 0 0 0\nb B 0 0 0\n")), 2)
        self.assertEqual(keeper.take_words(octets("a A 0 0 1\n")), 1)
        self.assertEqual(kept(keeper)[0], [(row("a"), row("A"), 0, 0, 1)])
        self.assertEqual(keeper.take_words([]), 0)
        self.assertEqual(kept(keeper)[0], [])


if __name__ == "__main__":
    unittest.main()
