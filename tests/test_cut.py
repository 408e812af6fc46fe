"""The call cut: a text cut in longest pieces."""

import itertools
import unittest

from helper import (alternatives, ask, call_at, call_cut, call_format, call_state, call_wished, cut_of_row, cut_text,
                    feed_text, literal, number, optional, read_row, repeat, told_row, told_text, word)


def either(*texts):
    """The format of just these texts."""
    row = told_row(literal(texts[0])) if texts[0] else [0]
    for text in texts[1:]:
        row = told_row(alternatives(row, told_row(literal(text)) if text else [0]))
    return row


class CutTest(unittest.TestCase):
    def assert_cut(self, made, text, lengths):
        told = ask(call_format(made), cut_text(text))[1]
        self.assertEqual(told, [len(lengths)] + lengths + [sum(lengths)], text)


class Pieces(CutTest):
    def test_the_longest_where_a_shorter_one_is_a_text(self):
        self.assert_cut(either("a", "ab", "abc"), "abcabaabc", [3, 2, 1, 3])
        self.assert_cut(told_row(number(1, 3)), "1234560089", [3, 3, 1, 1, 2])
        self.assert_cut(told_row(word(2, 4)), "abcdefg", [4, 3])

    def test_the_longest_that_is_a_text_though_bytes_behind_go_on(self):
        self.assert_cut(either("a", "aaab"), "aaaab", [1, 4])
        self.assert_cut(either("ab", "abcdef", "c"), "abcde", [2, 1])
        self.assert_cut(told_row(word(1, 2), optional(literal("-"), number(2, 2))), "ab-12ab-1", [5, 2])

    def test_a_longest_piece_may_spoil_what_is_behind(self):
        self.assert_cut(either("ab", "abc", "cd"), "abcd", [3])
        self.assert_cut(told_row(repeat("", 2, 3, literal("a"))), "aaaa", [3])

    def test_begins_with_no_piece(self):
        for text in ("b", "xa", " a", "ba", "\0a"):
            self.assert_cut(either("a", "ab"), text, [])
        self.assert_cut(told_row(word(2, 2)), "a", [])
        self.assert_cut(told_row(word(2, 2)), "a1bc", [])

    def test_a_rest_that_is_no_piece(self):
        self.assert_cut(told_row(literal("ab")), "ababa", [2, 2])
        self.assert_cut(told_row(literal("ab")), "abxab", [2])
        self.assert_cut(told_row(number(2, 2)), "12345", [2, 2])

    def test_pieces_with_what_separates_them(self):
        made = told_row(word(1, 4), alternatives(told_row(literal(" ")), told_row(literal("."))))
        self.assert_cut(made, "the cat sat. on", [4, 4, 4])

    def test_repeats(self):
        self.assert_cut(told_row(repeat(",", 1, 3, number(1, 1))), "1,2,3,4", [5])
        self.assert_cut(told_row(repeat("", 1, 2, literal("ab"))), "abababx", [4, 2])

    def test_texts_of_few_bytes(self):
        for made in (either("a", "aab", "ba"), either("", "ab", "abba"), told_row(repeat("a", 0, 3, literal("b")))):
            row = read_row(made)[0]
            for length in range(8):
                for text in itertools.product((97, 98), repeat=length):
                    told = ask(call_format(made), call_cut([length, *text]))[1]
                    self.assertEqual(told, cut_of_row(row, text), (made, text))


class Edges(CutTest):
    def test_an_empty_text(self):
        for made in ([0], either("a"), either("", "a")):
            self.assertEqual(ask(call_format(made), call_cut([0]))[1], [0, 0])

    def test_made_of_no_pieces(self):
        for made in ([0], told_row(optional()), told_row(repeat("x", 0, 0, literal("x")))):
            self.assert_cut(made, "xxx", [])
        self.assertEqual(ask(cut_text("x")), [[0, 0]])

    def test_a_format_that_has_the_empty_text(self):
        self.assert_cut(either("", "a"), "b", [])
        self.assert_cut(either("", "a"), "aab", [1, 1])
        self.assert_cut(either("", "ab"), "aba", [2])
        self.assert_cut(told_row(repeat("", 0, 3, word(1, 1))), "abcdefg!h", [3, 3, 1])

    def test_sixty_bytes_and_one_more(self):
        self.assert_cut(either("a"), "a" * 60, [1] * 60)
        self.assert_cut(told_row(repeat("", 1, 4, *[literal("abc")] * 5)), "abc" * 20, [60])
        self.assert_cut(either("a"), "a" * 59 + "b", [1] * 59)
        self.assertEqual(ask(call_format(either("a")), cut_text("a" * 61))[1], [-1])

    def test_a_list_that_is_not_whole_a_text(self):
        for told in ([], [1], [2, 97], [3, 97, 97], [2, 97, 97, 97], [1, 97, 97], [0, 97], [-1], [61] + [97] * 61):
            self.assertEqual(ask(call_format(either("a")), call_cut(told), call_cut([2, 97, 97]))[1:],
                             [[-1], [2, 1, 1, 2]])

    def test_bytes_at_their_limits(self):
        for byte in (0, 31, 32, 126, 127, 255):
            self.assertEqual(ask(call_format(either("a")), call_cut([3, 97, byte, 97]))[1], [1, 1, 1])
            self.assertEqual(ask(call_format(either("a")), call_cut([2, byte, 97]))[1], [0, 0])
        for byte in (-1, 256):
            self.assertEqual(ask(call_format(either("a")), call_cut([3, 97, byte, 97]))[1], [-1])
            self.assertEqual(ask(call_format(either("a")), call_cut([3, 120, 120, byte]))[1], [-1])


class WhatStays(unittest.TestCase):
    MADE = told_row(literal("ab"), number(1, 2))

    def test_the_stream_and_the_format(self):
        for text in ("", "a", "ab1", "ab10", "x"):
            behind = [call_at(), call_wished(), call_state(2), feed_text("b1"), cut_text("ab1")]
            plain = ask(call_format(self.MADE), feed_text(text), *behind)
            told = ask(call_format(self.MADE), feed_text(text), cut_text("ab12ab0ab"), cut_text("q"), *behind)
            self.assertEqual(told, plain[:2] + [[2, 4, 3, 7], [0, 0]] + plain[2:])

    def test_it_reads_from_the_beginning_wherever_the_stream_stands(self):
        for text in ("a", "ab", "ab1", "x"):
            told = ask(call_format(self.MADE), feed_text(text), cut_text("b1"), cut_text("1"), cut_text("ab1"))
            self.assertEqual(told[2:], [[0, 0], [0, 0], [1, 3, 3]])

    def test_it_asks_the_format_from_now_on(self):
        told = ask(call_format(self.MADE), call_format(either("a")), cut_text("aab1"), call_format([1]),
                   call_cut(told_text("ab1")))
        self.assertEqual(told[2:], [[2, 1, 1, 2], [-1], [1, 1, 1]])


if __name__ == "__main__":
    unittest.main()
