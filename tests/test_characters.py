"""Characters, and strict UTF-8."""

import unittest

from sayback.characters import characters_of, is_character, may_stand_in_word


def told_by_python(octets):
    try:
        return [ord(sign) for sign in bytes(octets).decode("utf-8")]
    except UnicodeDecodeError:
        return None


class TestCharacter(unittest.TestCase):
    def test_what_a_character_is(self):
        for number in (0, 0x20, 0x7F, 0xD7FF, 0xE000, 0xFFFE, 0xFFFF, 0x10000, 0x10FFFF):
            self.assertTrue(is_character(number), hex(number))
        for number in (0xD800, 0xDBFF, 0xDC00, 0xDFFF, 0x110000, 0x110001, 4294967295):
            self.assertFalse(is_character(number), hex(number))

    def test_what_may_stand_in_a_word(self):
        for number in (0x21, 0x30, 0x7E, 0x80, 0x85, 0xA0, 0x3000, 0xFEFF, 0xFFFF, 0x10FFFF):
            self.assertTrue(may_stand_in_word(number), hex(number))
        for number in list(range(0x21)) + [0x7F]:
            self.assertFalse(may_stand_in_word(number), hex(number))


class TestUtf8(unittest.TestCase):
    def check(self, *octets):
        self.assertEqual(characters_of(list(octets)), told_by_python(octets), [hex(octet) for octet in octets])

    def test_nothing(self):
        self.assertEqual(characters_of([]), [])

    def test_several(self):
        self.assertEqual(characters_of(list("aé日😀z".encode())), [0x61, 0xE9, 0x65E5, 0x1F600, 0x7A])

    def test_every_character(self):
        for number in list(range(0, 0x3000)) + list(range(0x3000, 0x110000, 61)) + [0xD7FF, 0xE000, 0xFFFF, 0x10FFFF]:
            if not 0xD800 <= number <= 0xDFFF:
                self.assertEqual(characters_of(list(chr(number).encode())), [number])

    def test_every_byte_by_itself_and_every_two(self):
        for first in range(256):
            self.check(first)
            for second in range(256):
                self.check(first, second)

    def test_three_and_four_bytes_at_the_edges(self):
        edges = (0x00, 0x41, 0x7F, 0x80, 0x8F, 0x90, 0x9F, 0xA0, 0xBF, 0xC0, 0xC2, 0xE0, 0xF0, 0xFF)
        for first in range(0x70, 256):
            for second in edges:
                for third in edges:
                    self.check(first, second, third)
                    if first >= 0xE0:
                        for fourth in (0x41, 0x7F, 0x80, 0xBF, 0xC0):
                            self.check(first, second, third, fourth)

    def test_too_long_a_form(self):
        for octets in (b"\xc0\x80", b"\xc1\xbf", b"\xe0\x80\x80", b"\xe0\x9f\xbf", b"\xf0\x80\x80\x80",
                       b"\xf0\x8f\xbf\xbf", b"\xf8\x88\x80\x80\x80", b"\xfc\x84\x80\x80\x80\x80"):
            self.assertIsNone(characters_of(list(octets)), octets)

    def test_no_characters(self):
        for octets in (b"\xed\xa0\x80", b"\xed\xbf\xbf", b"\xf4\x90\x80\x80", b"\xf7\xbf\xbf\xbf"):
            self.assertIsNone(characters_of(list(octets)), octets)

    def test_cut_off(self):
        for octets in (b"\xc3", b"a\xe6\x97", b"\xe6", b"\xf0\x9f\x98", b"\xf0\x9f", b"\xf0", b"\xe6\x97a"):
            self.assertIsNone(characters_of(list(octets)), octets)

    def test_by_itself(self):
        for octet in range(0x80, 0xC0):
            self.assertIsNone(characters_of([octet]))
            self.assertIsNone(characters_of([0x61, octet, 0x61]))


if __name__ == "__main__":
    unittest.main()
