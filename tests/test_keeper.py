"""What an object keeps, and what the calls leave as it is."""

import unittest

from helper import kept, lines, many_words, octets, row, signs
from sayback.keeper import Keeper
from sayback.refusals import Faulty, NoCharacter, NoSuchWay, TooManyWays, WrongLength

NEW = ([], 65535, {})
WORDS = lines("b B 0 0 0", "a A 1 2 3")
JOINS = lines("40", "1 3 9", "2 2 0")
KEPT_WORDS = [(row("a"), row("A"), 1, 2, 3), (row("b"), row("B"), 0, 0, 0)]
WRONG_WORDS = ("x", "a A 0 0 0\nb B 0 0\n", "c C 0 0 0\nd D 0 0 65536\n", "c C 0 0 0\nc C 0 0 0\n", many_words(129))
WRONG_JOINS = ("", "x\n", "65536\n", "7\n8 8 8\n8 8 8\n", "7\n8 8 8\n9 9\n", "7\n8 8 8\n256 0 0\n", "7\n8 8 8")


def filled():
    keeper = Keeper()
    keeper.take_words(octets(WORDS))
    keeper.take_joins(octets(JOINS))
    return keeper


class TestKeeper(unittest.TestCase):
    def test_new(self):
        self.assertEqual(kept(Keeper()), NEW)

    def test_filled(self):
        self.assertEqual(kept(filled()), (KEPT_WORDS, 40, {(1, 3): 9}))

    def test_begin(self):
        for keeper in (Keeper(), filled()):
            self.assertEqual(keeper.begin(), 0)
            self.assertEqual(kept(keeper), NEW)

    def test_taken_anew_after_begin(self):
        keeper = filled()
        keeper.begin()
        keeper.take_words(octets("z Z 1 1 1\n"))
        self.assertEqual(kept(keeper), ([(row("z"), row("Z"), 1, 1, 1)], 65535, {}))

    def test_words_leave_the_joins(self):
        keeper = filled()
        keeper.take_words([])
        self.assertEqual(kept(keeper), ([], 40, {(1, 3): 9}))

    def test_joins_leave_the_words(self):
        keeper = filled()
        keeper.take_joins(octets("0\n"))
        self.assertEqual(kept(keeper), (KEPT_WORDS, 0, {}))

    def test_two_objects_are_apart(self):
        one, other = Keeper(), Keeper()
        one.take_words(octets(WORDS))
        one.take_joins(octets(JOINS))
        self.assertEqual(kept(other), NEW)
        self.assertEqual(kept(Keeper()), NEW)

    def test_the_rows_taken_are_not_changed(self):
        keeper = Keeper()
        words, joins = octets(WORDS), octets(JOINS)
        keeper.take_words(words)
        keeper.take_joins(joins)
        self.assertEqual((words, joins), (octets(WORDS), octets(JOINS)))

    def test_asking_changes_neither_the_object_nor_the_signs(self):
        keeper = filled()
        before = kept(keeper)
        text = signs("AAB")
        self.assertEqual(keeper.count_ways(text), 8)
        self.assertEqual([piece.number for piece in keeper.nth_way(0, text).pieces], [0, 0, 1])
        self.assertEqual(text, signs("AAB"))
        self.assertEqual(kept(keeper), before)


class TestRefused(unittest.TestCase):
    def test_wrong_words_change_nothing(self):
        for keeper in (Keeper(), filled()):
            before = kept(keeper)
            for text in WRONG_WORDS:
                with self.assertRaises(Faulty):
                    keeper.take_words(octets(text))
                self.assertEqual(kept(keeper), before)

    def test_wrong_joins_change_nothing(self):
        for keeper in (Keeper(), filled()):
            before = kept(keeper)
            for text in WRONG_JOINS:
                with self.assertRaises(Faulty):
                    keeper.take_joins(octets(text))
                self.assertEqual(kept(keeper), before)

    def test_too_long_changes_nothing(self):
        keeper = filled()
        before = kept(keeper)
        with self.assertRaises(WrongLength):
            keeper.take_words(octets("a A 0 0 0\n" * 6554))
        with self.assertRaises(WrongLength):
            keeper.take_joins(octets("5\n" + "0" * 65535))
        self.assertEqual(kept(keeper), before)

    def test_refused_texts_of_signs_change_nothing(self):
        keeper = filled()
        before = kept(keeper)
        for text, error in (([], WrongLength), (signs("A" * 25), WrongLength), (signs("A" * 23) + [0xD800], NoCharacter),
                            (signs("A" * 11), TooManyWays), (signs("A"), NoSuchWay)):
            for number in (2, 4294967295):
                with self.assertRaises(error):
                    keeper.nth_way(number, text)
            if error != NoSuchWay:
                with self.assertRaises(error):
                    keeper.count_ways(text)
            self.assertEqual(kept(keeper), before)

    def test_a_call_behind_a_refused_one(self):
        keeper = filled()
        with self.assertRaises(Faulty):
            keeper.take_words(octets("x"))
        keeper.take_joins(octets("1\n"))
        self.assertEqual(kept(keeper), (KEPT_WORDS, 1, {}))


if __name__ == "__main__":
    unittest.main()
