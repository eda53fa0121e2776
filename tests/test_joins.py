"""The joins' text, its fault, and the joins that are kept."""

import random
import re
import unittest

from helper import asked, joins, octets
from sayback.joins import joins_of, new_joins
from sayback.keeper import Keeper


def told_otherwise(text):
    """What is to be answered to joins, worked out in another way."""
    rows = text.split(b"\n")
    behind = rows.pop()
    number = rb"(0|[1-9][0-9]*)"
    first, later = re.compile(number), re.compile(number + b" " + number + b" " + number)
    seen = {}
    for line, each in enumerate(rows + ([None] if behind or not rows else [])):
        found = each is not None and (later if line else first).fullmatch(each)
        if not found:
            return [-2, line, 1]
        numbers = [int(part[:9]) for part in found.groups()]
        if numbers[-1] > 65535 or max(numbers[:-1], default=0) > 255:
            return [-2, line, 2]
        if line and tuple(numbers[:2]) in seen:
            return [-2, line, 3]
        if line:
            seen[tuple(numbers[:2])] = numbers[2]
    return [sum(1 for cost in seen.values() if cost)]


class TestJoinsText(unittest.TestCase):
    def check(self, text, told):
        self.assertEqual(asked(joins(text)), [told], text)

    def check_line(self, line, kind):
        """The line with this fault behind the first one, and as a later one."""
        self.check("0\n" + line + "\n", [-2, 1, kind])
        self.check("0\n" + line + "\n1 1 1\nx", [-2, 1, kind])
        self.check("65535\n9 9 9\n9 8 0\n" + line + "\n\n", [-2, 3, kind])

    def test_the_first_line_alone(self):
        for cost in ("0", "1", "40", "65535"):
            self.check(cost + "\n", [0])

    def test_how_many_that_dont_cost_0(self):
        self.check("40\n1 3 9\n", [1])
        self.check("40\n1 3 0\n", [0])
        self.check("40\n1 3 0\n3 1 1\n0 0 0\n255 255 65535\n0 255 1\n255 0 1\n0 1 0\n", [4])
        text = "0\n" + "".join("%d %d %d\n" % (right, left, left % 2) for right in range(60) for left in range(60))
        self.check(text, [1800])

    def test_no_first_line(self):
        self.check("", [-2, 0, 1])
        self.check("\n", [-2, 0, 1])
        self.check("\n1 1 1\n", [-2, 0, 1])
        self.check("1 1 1\n", [-2, 0, 1])
        self.check("40", [-2, 0, 1])
        self.check("65536", [-2, 0, 1])

    def test_a_wrong_first_line(self):
        for line in ("00", "01", "040", "+1", "-1", "-0", "x", "4x", "4 ", " 4", "4 4", "4\r", "4\t", "/", ":", "1.0",
                     "\uff11", "", "0" * 400, "0 0 0"):
            self.check(line + "\n", [-2, 0, 1])
            self.check(line + "\n1 1 1\n1 1 1\n", [-2, 0, 1])
        for line in ("65536", "100000", "4294967296", "9" * 5000, "1" + "0" * 5000):
            self.check(line + "\n", [-2, 0, 2])
            self.check(line + "\nx\n", [-2, 0, 2])
            self.check(line + "\nx", [-2, 0, 2])

    def test_no_line_feed_behind_the_last(self):
        self.check("40\n1 3 9", [-2, 1, 1])
        self.check("40\n1 3 9\n1 3 9", [-2, 2, 1])
        self.check("40\n1 3 99999", [-2, 1, 1])
        self.check("40\n ", [-2, 1, 1])

    def test_more_and_fewer_and_empty_parts(self):
        for line in ("", " ", "  ", "1", "1 1", "1 1 1 1", "1 1 ", " 1 1", "1  1", " 1 1 1", "1 1 1 ", "1  1 1"):
            self.check_line(line, 1)

    def test_numbers_that_are_none(self):
        for number in ("00", "01", "+1", "-1", "-0", "1.", "x", "1x", "x1", "/", ":", "1_0", "\u0661", "\uff11",
                       "1\t", "1\r", "0" * 400, "0256", "099999"):
            for line in (number + " 1 1", "1 " + number + " 1", "1 1 " + number):
                self.check_line(line, 1)

    def test_bytes_above_the_digits(self):
        for octet in list(range(0x0A)) + list(range(0x0B, 0x20)) + list(range(0x3A, 0x100)):
            self.check(b"40\n1 1 " + bytes([octet]) + b"\n", [-2, 1, 1])

    def test_sorts_and_costs_too_great(self):
        for line in ("256 1 1", "1 256 1", "1 1 65536", "65536 1 1", "1 100000 0", "256 256 0", "1 1 " + "9" * 5000,
                     "1" + "0" * 5000 + " 1 1", "4294967296 1 1"):
            self.check_line(line, 2)

    def test_two_sorts_twice(self):
        self.check("40\n1 3 9\n1 3 9\n", [-2, 2, 3])
        self.check("40\n1 3 9\n1 3 8\n", [-2, 2, 3])
        self.check("40\n1 3 0\n1 3 9\n", [-2, 2, 3])
        self.check("40\n1 3 9\n1 3 0\n", [-2, 2, 3])
        self.check("40\n1 3 0\n3 1 0\n2 2 2\n1 3 0\n", [-2, 4, 3])
        self.check("40\n1 3 9\n3 1 9\n1 2 9\n2 3 9\n", [4])
        self.check("40\n1 11 9\n11 1 9\n111 1 9\n1 111 9\n0 255 9\n255 0 9\n1 0 9\n0 1 9\n", [8])

    def test_of_one_line_the_least_kind(self):
        self.check("40\n1 3 9\n1 3 65536\n", [-2, 2, 2])
        self.check("40\n1 3 9\n1 3 09\n", [-2, 2, 1])
        self.check_line("256 1 65536 1", 1)
        self.check_line("256 01 65536", 1)
        self.check("65536 1\n", [-2, 0, 1])

    def test_the_first_line_that_is_wrong(self):
        self.check("40\n1 3 9\n1 3 9\nx\n256 0 0\n", [-2, 2, 3])
        self.check("40\n256 3 9\nx\n", [-2, 1, 2])
        self.check("40\nx\n256 3 9\n", [-2, 1, 1])

    def test_many_texts_against_another_way(self):
        chance = random.Random(20261119)
        good = [b"0", b"1", b"2", b"255"]
        any_part = good + [b"256", b"65535", b"65536", b"00", b"", b"+1", b"\xff", b"9" * 30]
        for each in range(6000):
            text = chance.choice(any_part if chance.random() < 0.1 else good) + b"\n"
            for line in range(chance.randrange(6)):
                picked = [chance.choice(good) for part in range(3)]
                if chance.random() < 0.1:
                    picked[chance.randrange(3)] = chance.choice(any_part)
                if chance.random() < 0.03:
                    picked.append(b"0")
                text += b" ".join(picked) + (b"\n" if chance.random() < 0.98 else b"")
            self.check(text, told_otherwise(text))


class TestJoinsKept(unittest.TestCase):
    def test_a_lines_beginning(self):
        new = new_joins()
        self.assertEqual(new.alone, 65535)
        self.assertEqual({new.between(right, left) for right in range(256) for left in range(256)}, {0})

    def test_right_before_left(self):
        told = joins_of(octets("40\n1 3 9\n255 0 65535\n7 7 0\n"))
        self.assertEqual(told.alone, 40)
        self.assertEqual((told.between(1, 3), told.between(3, 1)), (9, 0))
        self.assertEqual((told.between(255, 0), told.between(0, 255)), (65535, 0))
        self.assertEqual((told.between(7, 7), told.between(0, 0)), (0, 0))

    def test_joins_take_the_place_of_those_before(self):
        keeper = Keeper()
        self.assertEqual(keeper.take_joins(octets("40\n1 3 9\n2 2 2\n")), 2)
        self.assertEqual(keeper.take_joins(octets("0\n3 1 5\n")), 1)
        self.assertEqual(keeper.joins.alone, 0)
        self.assertEqual([keeper.joins.between(*sorts) for sorts in ((1, 3), (2, 2), (3, 1))], [0, 0, 5])


if __name__ == "__main__":
    unittest.main()
