"""The call free: which bytes no text of a format has."""

import unittest

from helper import (Made, alternatives, ask, call_at, call_format, call_free, call_wished, feed_text, free_of_row,
                    literal, number, optional, read_row, repeat, texts_of_row, told_row, word)

ALL_FREE = [1, 32, 126, 0]


class Free(unittest.TestCase):
    def assert_free(self, made, ranges):
        self.assertEqual(ask(call_format(made), call_free())[1], ranges, made)

    def test_made_of_no_pieces(self):
        self.assertEqual(ask(call_free()), [ALL_FREE])
        for made in ([0], told_row(optional()), told_row(alternatives([0], [0])), told_row(repeat("", 4, 4))):
            self.assert_free(made, ALL_FREE)

    def test_each_kind(self):
        self.assert_free(told_row(literal("ba@")), [3, 32, 63, 0, 65, 96, 0, 99, 126, 0])
        self.assert_free(told_row(word(1, 1)), [2, 32, 96, 0, 123, 126, 0])
        self.assert_free(told_row(alternatives(told_row(word(1, 4)), told_row(literal("A")))),
                         [3, 32, 64, 0, 66, 96, 0, 123, 126, 0])
        self.assert_free(told_row(optional(literal("!"))), [2, 32, 32, 0, 34, 126, 0])
        self.assert_free(told_row(repeat("|", 1, 2, literal("a"))), [3, 32, 96, 0, 98, 123, 0, 125, 126, 0])

    def test_every_kind_of_number_has_every_digit(self):
        for lo in range(1, 5):
            for hi in range(lo, 5):
                self.assert_free(told_row(number(lo, hi)), [2, 32, 47, 0, 58, 126, 0])

    def test_the_first_and_the_last_byte(self):
        self.assert_free(told_row(literal(" ")), [1, 33, 126, 0])
        self.assert_free(told_row(literal("~")), [1, 32, 125, 0])
        self.assert_free(told_row(literal("~ ")), [1, 33, 125, 0])
        self.assert_free(told_row(literal("!}")), [3, 32, 32, 0, 34, 124, 0, 126, 126, 0])

    def test_many_ranges(self):
        signs = [chr(byte) for byte in range(33, 127, 2)]
        made = told_row(*[literal("".join(signs[at:at + 8])) for at in range(0, len(signs), 8)])
        self.assert_free(made, [48] + sum([[byte, byte, 0] for byte in range(32, 127, 2)], []))

    def test_every_byte_in_some_text(self):
        signs = "".join(chr(byte) for byte in range(32, 127))
        parts = [literal(signs[at:at + 8]) for at in range(0, 95, 8)]
        self.assert_free(told_row(*parts), [0])
        self.assert_free(told_row(*parts[:6], optional(*parts[6:])), [0])
        for byte, left in ((32, " "), (64, "@"), (126, "~")):
            others = signs.replace(left, "")
            parts = [literal(others[at:at + 8]) for at in range(0, 94, 8)]
            self.assert_free(told_row(*parts), [1, byte, byte, 0])

    def test_parts_that_are_never_gone_through(self):
        self.assert_free(told_row(repeat("", 0, 0, literal("x"))), ALL_FREE)
        self.assert_free(told_row(repeat("-", 0, 0, word(1, 4), number(1, 2))), ALL_FREE)
        self.assert_free(told_row(literal("a"), repeat("-", 0, 0, literal("x"))), [2, 32, 96, 0, 98, 126, 0])
        self.assert_free(told_row(literal("a"), repeat("-", 0, 0, literal("a"))), [2, 32, 96, 0, 98, 126, 0])

    def test_separators_that_never_stand_between(self):
        for lo, hi in ((0, 1), (1, 1)):
            self.assert_free(told_row(repeat("-", lo, hi, literal("a"))), [2, 32, 96, 0, 98, 126, 0])
        self.assert_free(told_row(repeat("-", 0, 2, literal("a"))), [3, 32, 44, 0, 46, 96, 0, 98, 126, 0])
        self.assert_free(told_row(repeat("-", 2, 2)), [2, 32, 44, 0, 46, 126, 0])

    def test_formats_made_up(self):
        made_up = Made(3)
        for _ in range(200):
            made = made_up.row(2, False, "a1 ~,")
            if len(made) <= 200 and ask(call_format(made)) != [[-1]]:
                self.assert_free(made, free_of_row(read_row(made)[0]))

    def test_against_all_texts(self):
        for made in (told_row(number(1, 2), optional(literal("."))), told_row(repeat(", ", 0, 3, literal("#"))),
                     told_row(alternatives(told_row(literal("if")), told_row(repeat("", 0, 0, literal("q")))))):
            had = {byte for text in texts_of_row(read_row(made)[0]) for byte in text}
            told = ask(call_format(made), call_free())[1]
            found = set()
            for first, last, state in zip(told[1::3], told[2::3], told[3::3]):
                self.assertEqual(state, 0)
                found |= set(range(first, last + 1))
            self.assertEqual(found, set(range(32, 127)) - had)


class WhatStays(unittest.TestCase):
    MADE = told_row(literal("ab"), number(1, 2))

    def test_the_stream(self):
        free = [3, 32, 47, 0, 58, 96, 0, 99, 126, 0]
        for text in ("", "a", "ab1", "ab10", "x"):
            behind = [call_at(), call_wished(), feed_text("b1")]
            plain = ask(call_format(self.MADE), feed_text(text), *behind)
            told = ask(call_format(self.MADE), feed_text(text), call_free(), call_free(), *behind)
            self.assertEqual(told, plain[:2] + [free, free] + plain[2:])

    def test_it_asks_the_format_from_now_on(self):
        told = ask(call_format(self.MADE), call_format(told_row(literal("}"))), call_free(), call_format([1]),
                   call_free(), call_format([0]), call_free())
        self.assertEqual(told[2::2], [[2, 32, 124, 0, 126, 126, 0]] * 2 + [ALL_FREE])


if __name__ == "__main__":
    unittest.main()
