"""Points 1 and 2: which lists are whole a format, to format and to equal, and what a refused and a taken one do."""

import unittest

from helper import (alternatives, ask, call_at, call_equal, call_format, call_state, feed_text, literal, number,
                    optional, repeat, told_row, word)

LARGE = 10 ** 18
RICH = told_row(
    literal("x="),
    alternatives(told_row(number(1, 3), word(2, 2)), told_row()),
    optional(literal(" "), word(1, 4)),
    repeat(", ", 0, 2, literal("q")),
)


class FormatTest(unittest.TestCase):
    def assert_refused(self, made):
        self.assertEqual(ask(call_format(made), call_equal(made)), [[-1], [-1]], made)

    def assert_taken(self, made):
        told, equal = ask(call_format(made), call_equal(made))
        self.assertEqual(len(told), 2, made)
        self.assertGreaterEqual(told[0], 1)
        self.assertEqual(equal, [1], made)


class NotWhole(FormatTest):
    def test_cut_short_anywhere(self):
        self.assert_taken(RICH)
        for length in range(len(RICH)):
            self.assert_refused(RICH[:length])

    def test_numbers_behind(self):
        for made in (RICH, [0], [1, 1, 1, 2]):
            self.assert_refused(made + [0])
            self.assert_refused(made + [LARGE, -LARGE])
        self.assert_refused(RICH + RICH)

    def test_unknown_pieces(self):
        for kind in (-LARGE, -1, 6, 7, 48, LARGE):
            self.assert_refused([1, kind])
            self.assert_refused([1, kind, 1, 1])
            self.assert_refused([1, kind, 0])
            self.assert_refused([1, 4, 1, kind, 1, 1])

    def test_counts_that_no_row_or_text_has(self):
        for count in (-LARGE, -1, 2, 15, LARGE):
            self.assert_refused([count, 0, 1, 97])
            self.assert_refused([1, 4, count, 0, 1, 97])
            self.assert_refused([1, 0, count, 97])
            self.assert_refused([1, 5, count, 44, 0, 1, 0])

    def test_zeros_as_many_as_may_be_handed_in(self):
        self.assert_refused([0] * 200)
        self.assert_refused([1] * 200)


class Limits(FormatTest):
    def test_literals(self):
        self.assert_refused(told_row(literal("")))
        self.assert_taken(told_row(literal("a")))
        self.assert_taken(told_row(literal("abcdefgh")))
        self.assert_refused(told_row(literal("abcdefghi")))

    def test_bytes(self):
        for byte in (32, 126):
            self.assert_taken([1, 0, 1, byte])
            self.assert_taken([1, 5, 1, byte, 0, 1, 0])
        for byte in (-LARGE, -1, 0, 31, 127, 128, 255, 256, LARGE):
            self.assert_refused([1, 0, 1, byte])
            self.assert_refused([1, 0, 2, 97, byte])
            self.assert_refused([1, 5, 1, byte, 0, 1, 0])

    def test_numbers_and_words(self):
        for kind in (1, 2):
            for lo in range(-1, 7):
                for hi in range(-1, 7):
                    if 1 <= lo <= hi <= 4:
                        self.assert_taken([1, kind, lo, hi])
                    else:
                        self.assert_refused([1, kind, lo, hi])
            self.assert_refused([1, kind, 1, LARGE])
            self.assert_refused([1, kind, -LARGE, 1])

    def test_repeats(self):
        for lo in range(-1, 7):
            for hi in range(-1, 7):
                if 0 <= lo <= hi <= 4:
                    self.assert_taken([1, 5, 1, 44, lo, hi, 1, 0, 1, 97])
                else:
                    self.assert_refused([1, 5, 1, 44, lo, hi, 1, 0, 1, 97])

    def test_separators(self):
        self.assert_taken(told_row(repeat("", 1, 2, literal("a"))))
        self.assert_taken(told_row(repeat("12345678", 1, 2, literal("a"))))
        self.assert_refused(told_row(repeat("123456789", 1, 2, literal("a"))))


class HowManyPieces(FormatTest):
    def test_beside_one_another(self):
        self.assert_taken(told_row(*[literal("a")] * 14))
        self.assert_refused(told_row(*[literal("a")] * 15))

    def test_within_others(self):
        for within in (12, 13, 14):
            row = told_row(*[literal("a")] * within)
            check = self.assert_taken if within < 14 else self.assert_refused
            check([1, 4] + row)
            check([1, 5, 0, 0, 4] + row)
            check([1, 5, 0, 0, 0] + row)
            check([1, 3] + row + [0])
            check([1, 3, 0] + row)
        seven = told_row(*[literal("a")] * 7)
        six = told_row(*[literal("a")] * 6)
        self.assert_taken([1, 3] + seven + six)
        self.assert_taken([1, 3] + six + seven)
        self.assert_refused([1, 3] + seven + seven)

    def test_behind_others(self):
        self.assert_taken(told_row(optional(*[literal("a")] * 5), *[literal("a")] * 8))
        self.assert_refused(told_row(optional(*[literal("a")] * 5), *[literal("a")] * 9))

    def test_deep(self):
        self.assert_taken([1, 5, 0, 0, 0] + [1, 4] * 13 + [0])
        self.assert_refused([1, 5, 0, 0, 0] + [1, 4] * 14 + [0])
        self.assert_refused([1, 4] * 99 + [0])
        self.assert_refused([1, 4] * 100)
        self.assert_refused([1, 3] * 100)


class HowManyGoneThrough(FormatTest):
    def test_each_kind_counts_one(self):
        for piece in (number(1, 1), word(1, 1), alternatives([0], [0]), optional(), repeat("", 0, 4)):
            self.assert_taken(told_row(*[piece] * 8))
            self.assert_refused(told_row(*[piece] * 9))

    def test_literals_count_nothing(self):
        self.assert_taken(told_row(*[number(1, 1)] * 8, *[literal("a")] * 6))

    def test_alternatives_count_their_greater_row(self):
        seven = told_row(*[number(1, 1)] * 7)
        self.assert_taken(told_row(alternatives(seven, told_row(*[number(1, 1)] * 6))))
        self.assert_taken(told_row(alternatives(told_row(*[number(1, 1)] * 6), seven)))
        self.assert_refused(told_row(alternatives(told_row(*[number(1, 1)] * 8), told_row(number(1, 1)))))
        self.assert_refused(told_row(alternatives(told_row(number(1, 1)), told_row(*[number(1, 1)] * 8))))
        self.assert_refused(told_row(alternatives(seven, [0]), number(1, 1)))

    def test_optional_parts_count_what_is_in_them(self):
        self.assert_taken(told_row(optional(*[word(1, 1)] * 7)))
        self.assert_refused(told_row(optional(*[word(1, 1)] * 8)))
        self.assert_taken([1, 4] * 8 + [0])
        self.assert_refused([1, 4] * 9 + [0])

    def test_repeats_count_hi_times_what_is_in_them(self):
        self.assert_taken(told_row(repeat("", 0, 3, number(1, 1), word(1, 1)), number(1, 1)))
        self.assert_refused(told_row(repeat("", 0, 3, number(1, 1), word(1, 1)), number(1, 1), word(1, 1)))
        self.assert_taken(told_row(repeat("", 0, 1, *[number(1, 1)] * 7)))
        self.assert_refused(told_row(repeat("", 0, 1, *[number(1, 1)] * 8)))
        self.assert_refused(told_row(repeat("", 0, 4, number(1, 1), word(1, 1))))
        self.assert_taken(told_row(repeat("", 4, 4, optional()), *[number(1, 1)] * 3))
        self.assert_refused(told_row(repeat("", 4, 4, optional()), *[number(1, 1)] * 4))

    def test_repeats_of_no_time_count_one(self):
        self.assert_taken(told_row(repeat("", 0, 0, *[number(1, 1)] * 13)))
        self.assert_refused(told_row(repeat("", 0, 0, *[number(1, 1)] * 5), *[number(1, 1)] * 8))


class RepeatsWithinRepeats(FormatTest):
    def test_at_no_depth(self):
        inner = repeat("", 0, 1, literal("a"))
        for piece in (inner, optional(inner), alternatives([0], told_row(inner)), alternatives(told_row(inner), [0]),
                      optional(literal("b"), optional(inner))):
            self.assert_taken(told_row(piece))
            self.assert_refused(told_row(repeat("", 0, 1, piece)))
            self.assert_refused(told_row(repeat("", 0, 0, literal("c"), piece)))

    def test_beside_one_another(self):
        self.assert_taken(told_row(repeat("", 0, 1, literal("a")), repeat("", 0, 1, literal("b"))))


class WhatStays(FormatTest):
    def test_refused_changes_nothing(self):
        ahead = [call_format(RICH), feed_text("x=12"), call_state(4)]
        behind = [call_at(), call_state(4), feed_text("0ab")]
        plain = ask(*ahead, *behind)
        for bad in ([], [1], RICH[:-1], RICH + [0], [1, 6], [1, 1, 0, 1]):
            for call in (call_format, call_equal):
                told = ask(*ahead, call(bad), *behind)
                self.assertEqual(told, plain[:3] + [[-1]] + plain[3:])

    def test_refused_leaves_a_lost_stream_lost(self):
        for call in (call_format, call_equal):
            told = ask(call_format(RICH), feed_text("x?"), call([1]), call_at())
            self.assertEqual(told[1:], [[0, 1], [-1], [0, 1]])

    def test_taken_sets_the_stream_back(self):
        for text in ("x=1", "x?"):
            told = ask(call_format(RICH), feed_text(text), call_format(told_row(literal("abc"))), call_at())
            self.assertEqual(told[2:], [[4, 3], [1, 0, 0, 0, 3]])

    def test_the_same_format_again_sets_the_stream_back(self):
        made = told_row(literal("abc"))
        told = ask(call_format(made), feed_text("ab"), call_format(made), call_at())
        self.assertEqual(told, [[4, 3], [1, 2, 2, 0, 1], [4, 3], [1, 0, 0, 0, 3]])

    def test_state_is_asked_of_the_format_from_now_on(self):
        told = ask(call_format(told_row(literal("ab"))), call_format(told_row(literal("c"))), call_state(1),
                   call_state(2))
        self.assertEqual(told[1:], [[2, 1], [1, 1, 99, 0], [-2]])


if __name__ == "__main__":
    unittest.main()
