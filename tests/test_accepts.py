"""The call accepts: which texts a format has."""

import itertools
import unittest

from helper import (accepts_text, alternatives, ask, call_accepts, call_at, call_format, call_state, call_wished,
                    feed_text, literal, number, optional, read_row, repeat, texts_of_row, told_row, word)

SIXTY_ONE = told_row(repeat("", 1, 4, *[literal("abc")] * 5), optional(literal("z")))


class AcceptsTest(unittest.TestCase):
    def assert_accepts(self, made, had, not_had):
        for text in had:
            self.assertEqual(ask(call_format(made), accepts_text(text))[1], [1], text)
        for text in not_had:
            self.assertEqual(ask(call_format(made), accepts_text(text))[1], [0], text)


class Accepts(AcceptsTest):
    def test_literals(self):
        self.assert_accepts(told_row(literal("abc"), literal(" ~")), ["abc ~"], ["", "abc", "abc ", "abc ~~", "Abc ~"])

    def test_numbers_of_as_many_digits(self):
        self.assert_accepts(told_row(number(3, 3)), ["000", "007", "999"], ["", "7", "07", "0007", "1000", "-01"])

    def test_numbers_without_needless_zeros(self):
        self.assert_accepts(told_row(number(1, 3)), ["0", "7", "10", "999"], ["", "00", "07", "007", "1000", "+1"])
        self.assert_accepts(told_row(number(2, 3)), ["10", "99", "100"], ["0", "7", "00", "07", "012", "1000"])

    def test_words(self):
        self.assert_accepts(told_row(word(2, 3)), ["az", "zzz"], ["", "a", "abcd", "aB", "a1", "a ", "`a", "a{"])

    def test_alternatives(self):
        made = told_row(alternatives(told_row(literal("ab")), told_row(literal("a"), word(1, 1), literal("c"))))
        self.assert_accepts(made, ["ab", "abc", "axc"], ["", "a", "ac", "abb", "abcc"])

    def test_optional_parts(self):
        made = told_row(optional(literal("-")), number(1, 2), optional(literal("."), number(1, 1)))
        self.assert_accepts(made, ["0", "-0", "12.5", "-12.0"], ["", "-", "1.", ".5", "--1", "1.55", "01"])

    def test_repeats(self):
        made = told_row(repeat(", ", 2, 3, word(1, 2)))
        self.assert_accepts(made, ["a, b", "aa, bb, cc"], ["", "a", "a, ", "a,b", "a, b, ", "a, b, c, d", ", a"])

    def test_made_of_no_pieces(self):
        self.assert_accepts([0], [""], ["a", " ", "\0"])
        self.assertEqual(ask(accepts_text(""), accepts_text("a")), [[1], [0]])

    def test_every_text_of_few_bytes(self):
        for made in (told_row(optional(literal("a")), literal("ab"), optional(literal("b"))),
                     told_row(repeat("a", 0, 3, optional(literal("b")))),
                     told_row(repeat("", 1, 3, alternatives(told_row(literal("ab")), told_row(literal("ba")))))):
            texts = texts_of_row(read_row(made)[0])
            for length in range(8):
                for text in itertools.product((97, 98), repeat=length):
                    told = ask(call_format(made), call_accepts([length, *text]))[1]
                    self.assertEqual(told, [1 if text in texts else 0], (made, text))


class Edges(AcceptsTest):
    def test_an_empty_text(self):
        for made, had in (([0], 1), (told_row(literal("a")), 0), (told_row(optional(literal("a"))), 1),
                          (told_row(repeat(",", 0, 2, literal("a"))), 1), (told_row(word(1, 1)), 0),
                          (told_row(repeat("", 3, 3)), 1), (told_row(repeat(",", 3, 3)), 0)):
            self.assertEqual(ask(call_format(made), call_accepts([0]))[1], [had], made)

    def test_sixty_bytes_and_one_more(self):
        text = "abc" * 20
        self.assert_accepts(SIXTY_ONE, [text], [text[:59], text[:59] + "z"])
        self.assertEqual(ask(call_format(SIXTY_ONE), accepts_text(text + "z"), accepts_text("abc" * 5 + "z")),
                         [[62, 61 + 3], [-1], [1]])

    def test_a_list_that_is_not_whole_a_text(self):
        made = told_row(literal("aa"))
        for told in ([], [1], [2, 97], [3, 97, 97], [2, 97, 97, 97], [1, 97, 97], [0, 97], [-1], [61] + [97] * 61):
            self.assertEqual(ask(call_format(made), call_accepts(told), call_accepts([2, 97, 97]))[1:], [[-1], [1]])

    def test_bytes_at_their_limits(self):
        made = told_row(literal("aa"))
        for byte, answer in ((-1, -1), (0, 0), (31, 0), (32, 0), (97, 1), (126, 0), (127, 0), (255, 0), (256, -1)):
            self.assertEqual(ask(call_format(made), call_accepts([2, 97, byte]))[1], [answer])
            self.assertEqual(ask(call_format(made), call_accepts([2, byte, 97]))[1], [answer])

    def test_a_byte_too_large_behind_what_is_not_had(self):
        self.assertEqual(ask(call_format([0]), call_accepts([3, 120, 120, 256])), [[1, 0], [-1]])


class WhatStays(unittest.TestCase):
    MADE = told_row(literal("ab"), number(1, 2))

    def test_the_stream_and_the_format(self):
        for text in ("", "a", "ab1", "ab10", "x"):
            behind = [call_at(), call_wished(), call_state(2), feed_text("b1")]
            plain = ask(call_format(self.MADE), feed_text(text), *behind)
            told = ask(call_format(self.MADE), feed_text(text), accepts_text("ab12"), accepts_text("q"), *behind)
            self.assertEqual(told, plain[:2] + [[1], [0]] + plain[2:])

    def test_it_reads_from_the_beginning_wherever_the_stream_stands(self):
        for text in ("a", "ab", "ab1", "x"):
            told = ask(call_format(self.MADE), feed_text(text), accepts_text("b1"), accepts_text("1"),
                       accepts_text(""), accepts_text("ab1"))
            self.assertEqual(told[2:], [[0], [0], [0], [1]])

    def test_it_asks_the_format_from_now_on(self):
        told = ask(call_format(self.MADE), accepts_text("ab1"), call_format(told_row(word(1, 1))),
                   accepts_text("ab1"), accepts_text("z"), call_format([1]), accepts_text("z"))
        self.assertEqual(told[1::2], [[1], [0], [-1]])
        self.assertEqual(told[4::2], [[1], [1]])


if __name__ == "__main__":
    unittest.main()
