"""The call equal: whether another format has just the same texts."""

import itertools
import unittest

from helper import (accepts_text, alternatives, ask, call_at, call_equal, call_format, call_free, call_state,
                    call_wished, feed_text, literal, number, optional, read_row, repeat, texts_of_row, told_row, word)

ALIKE = (
    (told_row(literal("ab")), told_row(literal("a"), literal("b"))),
    (told_row(alternatives(told_row(literal("a")), told_row(literal("b")))),
     told_row(alternatives(told_row(literal("b")), told_row(literal("a"))))),
    (told_row(optional(literal("a"))), told_row(alternatives([0], told_row(literal("a"))))),
    (told_row(optional(literal("a"))), told_row(repeat(",", 0, 1, literal("a")))),
    (told_row(word(1, 3)), told_row(word(1, 1), optional(word(1, 2)))),
    (told_row(word(1, 4)), told_row(alternatives(told_row(word(2, 4)), told_row(word(1, 3))))),
    (told_row(number(1, 4)), told_row(alternatives(told_row(number(1, 2)), told_row(number(2, 4))))),
    (told_row(number(4, 4)), told_row(number(1, 1), number(3, 3))),
    (told_row(number(2, 2)), told_row(repeat("", 2, 2, number(1, 1)))),
    (told_row(repeat(", ", 1, 2, number(1, 2))), told_row(number(1, 2), optional(literal(", "), number(1, 2)))),
    (told_row(repeat("a", 1, 3)), told_row(repeat("", 0, 2, literal("a")))),
    (told_row(repeat("-", 3, 3, literal("x"))), told_row(literal("x-x-x"))),
    (told_row(repeat("", 0, 0, word(1, 4))), told_row(optional())),
    (told_row(repeat("unused", 0, 1, literal("x"))), told_row(repeat("", 0, 1, literal("x")))),
)
UNLIKE_IN_ONE_TEXT = (
    (told_row(literal("ab")), told_row(literal("ac"))),
    (told_row(literal("ab")), told_row(literal("ab"), optional(literal("c")))),
    (told_row(literal("ab")), told_row(optional(literal("ab")))),
    (told_row(word(1, 2)), told_row(alternatives(told_row(word(1, 2)), told_row(literal("abc"))))),
    (told_row(word(1, 2)), told_row(optional(word(1, 2)))),
    (told_row(number(1, 3)), told_row(alternatives(told_row(number(1, 3)), told_row(literal("00"))))),
    (told_row(number(4, 4)), told_row(alternatives(told_row(number(4, 4)), told_row(literal("999"))))),
    (told_row(repeat(",", 0, 3, literal("a"))), told_row(repeat(",", 1, 3, literal("a")))),
    (told_row(repeat(",", 1, 3, literal("a"))), told_row(repeat(",", 1, 4, literal("a")))),
    (told_row(literal("x"), word(2, 2)), told_row(alternatives(told_row(literal("x"), word(2, 2)),
                                                               told_row(literal("y"), literal("zz"))))),
    ([0], told_row(optional(literal("a")))),
)
UNLIKE = (
    ([0], told_row(literal("a"))),
    (told_row(word(1, 1)), told_row(number(1, 1))),
    (told_row(number(1, 2)), told_row(number(2, 2))),
    (told_row(number(2, 3)), told_row(number(1, 3))),
    (told_row(word(2, 2)), told_row(word(3, 3))),
    (told_row(literal("a"), optional(literal("b"))), told_row(optional(literal("a")), literal("b"))),
    (told_row(repeat(",", 2, 2, word(1, 1))), told_row(repeat(";", 2, 2, word(1, 1)))),
)
SMALL_PIECES = (
    literal("a"),
    literal("b"),
    literal("ab"),
    optional(literal("a")),
    alternatives([0], told_row(literal("ab"))),
    alternatives(told_row(literal("a")), told_row(literal("b"))),
    repeat("", 0, 2, literal("a")),
    repeat("b", 1, 2, literal("a")),
)


class Equal(unittest.TestCase):
    def assert_equal_answers(self, one, other, answer):
        for first, second in ((one, other), (other, one)):
            self.assertEqual(ask(call_format(first), call_equal(second))[1], [answer], (first, second))

    def test_written_otherwise(self):
        for one, other in ALIKE:
            self.assert_equal_answers(one, other, 1)

    def test_unlike_in_one_text(self):
        for one, other in UNLIKE_IN_ONE_TEXT:
            self.assert_equal_answers(one, other, 0)

    def test_unlike(self):
        for one, other in UNLIKE:
            self.assert_equal_answers(one, other, 0)

    def test_with_itself(self):
        for one, other in ALIKE + UNLIKE_IN_ONE_TEXT + UNLIKE:
            self.assert_equal_answers(one, one, 1)
            self.assert_equal_answers(other, other, 1)

    def test_states_and_bytes_alike_do_not_make_texts_alike(self):
        self.assertEqual(ask(call_format(told_row(literal("ab"))), call_format(told_row(literal("cd")))), [[3, 2]] * 2)
        self.assert_equal_answers(told_row(literal("ab")), told_row(literal("cd")), 0)

    def test_ends_alone_may_differ(self):
        self.assert_equal_answers(told_row(repeat("", 1, 2, literal("a"))), told_row(literal("aa")), 0)
        self.assert_equal_answers(told_row(repeat("", 0, 2, literal("a"))), told_row(repeat("", 1, 2, literal("a"))),
                                  0)

    def test_pairs_against_all_their_texts(self):
        rows = [told_row(*pieces) for count in range(3) for pieces in itertools.product(SMALL_PIECES, repeat=count)]
        texts = [texts_of_row(read_row(made)[0]) for made in rows]
        alike = 0
        for made, had in zip(rows, texts):
            expected = [[1 if had == others else 0] for others in texts]
            told = []
            for first in range(0, len(rows), 29):
                told += ask(call_format(made), *[call_equal(other) for other in rows[first:first + 29]])[1:]
            self.assertEqual(told, expected, made)
            alike += sum(sum(expected, []))
        self.assertGreater(alike, len(rows))


class NoPieces(unittest.TestCase):
    def test_made_of_no_pieces(self):
        for made in ([0], told_row(optional()), told_row(alternatives([0], [0])), told_row(repeat("", 2, 4)),
                     told_row(repeat("x", 0, 1)), told_row(repeat("x", 1, 1))):
            self.assertEqual(ask(call_equal(made)), [[1]], made)
            self.assertEqual(ask(call_format(made), call_equal([0]), call_equal(told_row(literal("x")))),
                             [[1, 0], [1], [0]], made)

    def test_of_a_new_object(self):
        self.assertEqual(ask(call_equal([0]), call_equal(told_row(word(1, 1)))), [[1], [0]])


class ListsThatAreNoFormat(unittest.TestCase):
    def test_refused(self):
        made = told_row(literal("a"), number(1, 2))
        for bad in ([], [1], made[:-1], made + [0], [-1], [15], [1, 6], [1, 0, 0], [1, 0, 1, 31], [1, 0, 1, 127],
                    [1, 1, 0, 1], [1, 1, 2, 1], [1, 2, 1, 5], [1, 5, 0, 0, 5, 0], [1, 5, 0, 1, 1, 1, 5, 0, 1, 1, 0],
                    told_row(*[literal("a")] * 15), told_row(*[number(1, 1)] * 9), [0] * 200, [1, 4] * 100):
            told = ask(call_format(made), feed_text("a"), call_equal(bad), call_at(), call_equal(made))
            self.assertEqual(told, [[4, 21], [1, 1, 1, 0, 1], [-1], [1, 1, 1, 0, 1], [1]], bad)


class WhatStays(unittest.TestCase):
    MADE = told_row(literal("ab"), number(1, 2))

    def test_the_stream_and_the_format(self):
        for text in ("", "a", "ab1", "ab10", "x"):
            behind = [call_at(), call_wished(), call_state(2), call_free(), accepts_text("ab12"), accepts_text("q"),
                      feed_text("b1"), call_equal(self.MADE)]
            plain = ask(call_format(self.MADE), feed_text(text), *behind)
            for other, answer in ((told_row(word(1, 1)), 0), (self.MADE, 1), ([0], 0)):
                told = ask(call_format(self.MADE), feed_text(text), call_equal(other), *behind)
                self.assertEqual(told, plain[:2] + [[answer]] + plain[2:])


if __name__ == "__main__":
    unittest.main()
