"""The interface: how calls stand in a list, how answers do, and what a call leaves alone."""

import contextlib
import io
import sys
import unittest

from helper import RUN_JOINS, RUN_WORDS, asked, begin, joins, many, many_words, nth, reading, words
from sayback.readings import answers

LONG = b"x" * 65536


class TestAnswers(unittest.TestCase):
    def test_empty_list(self):
        self.assertEqual(answers([]), [])

    def test_begin(self):
        self.assertEqual(answers([1]), [1, 0])

    def test_words_of_the_run(self):
        self.assertEqual(answers(words(RUN_WORDS)), [1, 4])

    def test_joins_of_the_run(self):
        self.assertEqual(answers(joins(RUN_JOINS)), [1, 1])

    def test_the_run_number_by_number(self):
        told = words(RUN_WORDS) + joins(RUN_JOINS)
        self.assertEqual(answers(told + [4, 2, 65, 68]), [1, 4, 1, 1, 1, 5])
        self.assertEqual(answers(told + [5, 0, 2, 65, 68]), [1, 4, 1, 1, 4, 1, 12, 2, 2])
        self.assertEqual(answers(told + [5, 2, 2, 65, 68]), [1, 4, 1, 1, 6, 2, 45, 1, -1, 1, 3])
        self.assertEqual(answers(told + [6, 2, 2, 65, 68]), [1, 4, 1, 1, 3, 2, 65, 98])
        self.assertEqual(answers(told + [5, 5, 2, 65, 68] + [6, 5, 2, 65, 68]), [1, 4, 1, 1, 1, -5, 1, -5])

    def test_rows_of_no_number(self):
        self.assertEqual(answers([2, 0]), [1, 0])
        self.assertEqual(answers([3, 0]), [3, -2, 0, 1])
        self.assertEqual(answers([4, 0]), [1, -1])
        self.assertEqual(answers([5, 0, 0]), [1, -1])
        self.assertEqual(answers([6, 4294967295, 0, 1]), [1, -1, 1, 0])

    def test_a_fault_tells_its_line_and_kind(self):
        self.assertEqual(answers(words("a A 0 0 0\nb B 256 0 0\n")), [3, -2, 1, 2])
        self.assertEqual(answers(joins("0\n1 1 1\n1 1 0\n")), [3, -2, 2, 3])

    def test_several_calls_in_one_list(self):
        calls = begin() + words(RUN_WORDS) + joins("x") + joins(RUN_JOINS) + words("") + begin()
        self.assertEqual(answers(calls), [1, 0, 1, 4, 3, -2, 0, 1, 1, 1, 1, 0, 1, 0])

    def test_bytes_that_look_like_calls(self):
        self.assertEqual(answers([2, 3, 1, 2, 3, 1, 3, 2, 48, 10]), [3, -2, 0, 1, 1, 0, 1, 0])

    def test_signs_and_numbers_of_ways_that_look_like_calls(self):
        self.assertEqual(answers([3, 2, 48, 10, 4, 2, 1, 4, 5, 1, 1, 2, 1]), [1, 0, 1, 1, 1, -5, 1, 0])
        self.assertEqual(answers([3, 2, 48, 10, 5, 0, 2, 5, 6, 6, 0, 1, 6]), [1, 0, 6, 2, 0, 1, -1, 1, -1, 2, 1, 6])

    def test_begin_after_words_and_joins(self):
        self.assertEqual(asked(words(RUN_WORDS), joins(RUN_JOINS), begin(), words(RUN_WORDS)), [[4], [1], [0], [4]])

    def test_three_hundred_calls(self):
        self.assertEqual(answers(begin() * 300), [1, 0] * 300)
        self.assertEqual(asked(*[words("a A 0 0 0\n")] * 150, *[joins("7\n1 1 1\n")] * 150), [[1]] * 300)
        told = asked(*[many("AD"), words(RUN_WORDS), nth(4, "AD"), joins(RUN_JOINS), reading(0, "AD"), begin()] * 50)
        self.assertEqual(told, [[1], [4], [2, 131070, 1, -1, 1, -1], [1], [2, 97, 98], [0]] * 50)

    def test_the_longest_row_of_a_list(self):
        self.assertEqual(asked(words("\n" * 29000), joins("1" * 29000)), [[-2, 0, 1], [-2, 0, 1]])
        self.assertEqual(asked(words("a A 0 0 " + "9" * 28991 + "\n")), [[-2, 0, 2]])
        self.assertEqual(asked(words("a" * 28991 + " A 0 0 0\n")), [[-2, 0, 2]])

    def test_whole_numbers_alone(self):
        asks = many("AD") + nth(3, "AD") + reading(3, "AD") + nth(5, "AD") + many("") + many([0xD800])
        told = answers(begin() + words(RUN_WORDS) + joins(RUN_JOINS) + words("x") + words(LONG + b"x") + asks)
        self.assertIs(type(told), list)
        self.assertEqual({type(number) for number in told}, {int})


class TestLength(unittest.TestCase):
    def test_words_too_long_before_all_else(self):
        self.assertEqual(asked(words(LONG)), [[-2, 0, 1]])
        self.assertEqual(asked(words(LONG + b"x")), [[-1]])
        self.assertEqual(asked(words(many_words(128).encode() + LONG)), [[-1]])
        self.assertEqual(asked(words(b"\n" * 65537)), [[-1]])

    def test_joins_too_long_before_all_else(self):
        pairs = [(right, left) for right in range(100, 200) for left in range(100, 200)]
        text = "40\n" + "".join("%d %d 10000\n" % pair for pair in pairs[:4680]) + "200 100 1000\n"
        self.assertEqual(len(text), 65536)
        self.assertEqual(asked(joins(text)), [[4681]])
        self.assertEqual(asked(joins(text.replace("200 100 1000\n", "200 100 10000\n"))), [[-1]])
        self.assertEqual(asked(joins(b"x" * 65537)), [[-1]])
        self.assertEqual(asked(joins(LONG)), [[-2, 0, 1]])

    def test_calls_go_on_behind_a_refusal(self):
        self.assertEqual(asked(words(LONG + b"x"), joins("x"), begin(), words("a A 0 0 0\n")),
                         [[-1], [-2, 0, 1], [0], [1]])


class TestNothingElse(unittest.TestCase):
    calls = begin() + words(RUN_WORDS) + joins(RUN_JOINS) + words("x\n") + joins("0\n0 0 0\n")
    calls += many("AD") + nth(2, "ADB") + reading(7, "AADB") + many([]) + reading(0, [0xD800]) + nth(9, "AD")

    def test_what_is_handed_in_is_not_changed(self):
        handed = list(self.calls)
        answers(handed)
        self.assertEqual(handed, self.calls)

    def test_what_is_handed_in_is_never_written_to(self):
        class ReadAlone(list):
            def refuse(self, *given, **named):
                raise AssertionError("the list that was handed in is written to")

            append = extend = insert = pop = remove = clear = sort = reverse = refuse
            __setitem__ = __delitem__ = __iadd__ = __imul__ = refuse

        self.assertEqual(answers(ReadAlone(self.calls)), answers(self.calls))

    def test_nothing_is_kept(self):
        first = answers(self.calls)
        answers(words(many_words(128)) + joins("1\n2 3 4\n") + many("AD") + nth(0, "AD"))
        self.assertEqual(answers(self.calls), first)
        first.append(0)
        self.assertEqual(answers(self.calls), first[:-1])
        self.assertEqual(answers(nth(0, "AD")), [6, 2, 131070, 1, -1, 1, -1])
        self.assertEqual(answers([]), [])

    def test_nothing_is_printed_or_read(self):
        out, err = io.StringIO(), io.StringIO()
        stdin = sys.stdin
        sys.stdin = None
        try:
            with contextlib.redirect_stdout(out), contextlib.redirect_stderr(err):
                answers(self.calls)
        finally:
            sys.stdin = stdin
        self.assertEqual((out.getvalue(), err.getvalue()), ("", ""))

    def test_nothing_is_imported(self):
        before = set(sys.modules)
        answers(self.calls)
        self.assertEqual(set(sys.modules), before)

    def test_no_deep_calls(self):
        limit = sys.getrecursionlimit()
        depth = len(__import__("inspect").stack())
        sys.setrecursionlimit(depth + 50)
        try:
            told = answers(words("\n" * 29000) + begin() * 200)
            ways = answers(words("a A 0 0 0\n") + nth(1023, "A" * 10 + "z" * 14) + many("A" * 24))
        finally:
            sys.setrecursionlimit(limit)
        self.assertEqual(len(told), 404)
        self.assertEqual((len(ways), ways[-1]), (2 + 1 + 2 + 48 + 2, -6))


if __name__ == "__main__":
    unittest.main()
