"""Points 2 and 3: states that are not there, texts that are refused, and how a stream goes on."""

import unittest

from helper import (alternatives, ask, call_accepts, call_at, call_cut, call_feed, call_format, call_reset, call_state,
                    feed_text, literal, number, optional, repeat, told_row, told_text, word)

LARGE = 10 ** 18
ABC = told_row(literal("abc"))
NAMES = told_row(literal("<"), repeat(", ", 1, 4, word(1, 3)), literal(">"))
SIXTY = told_row(repeat("", 4, 4, literal("a" * 8), literal("b" * 8)))


class StatesThatAreNotThere(unittest.TestCase):
    def test_numbers_of_no_state(self):
        for state in (-LARGE, -2, -1, 4, 5, 2000, LARGE):
            self.assertEqual(ask(call_format(ABC), call_state(state)), [[4, 3], [-2]])

    def test_the_first_and_the_last_one_are_there(self):
        self.assertEqual(ask(call_format(ABC), call_state(0), call_state(3))[1:],
                         [[0, 0, 1, 97, 97, 1], [1, 3, 97, 98, 99, 0]])

    def test_changes_nothing(self):
        told = ask(call_format(ABC), feed_text("a"), call_state(4), call_state(1), call_at())
        self.assertEqual(told[2:4], [[-2], [0, 1, 97, 1, 98, 98, 2]])
        self.assertEqual(told[4], told[1])


class TextsThatAreRefused(unittest.TestCase):
    """What feed, accepts and cut refuse, each of them."""

    def assert_refused(self, told):
        for call in (call_feed, call_accepts, call_cut):
            self.assertEqual(ask(call_format(ABC), feed_text("a"), call(told), call_at(), feed_text("bc")),
                             [[4, 3], [1, 1, 1, 0, 2], [-1], [1, 1, 1, 0, 2], [1, 3, 3, 1, 0]])

    def test_cut_short(self):
        for told in ([], [1], [2, 98], [3, 98, 99], [60] + [98] * 59, [LARGE, 98], [70] + [98] * 69):
            self.assert_refused(told)

    def test_numbers_behind(self):
        for told in ([0, 98], [1, 98, 99], [1, 98, -1], [2] + [98] * 69, [60] + [98] * 61):
            self.assert_refused(told)

    def test_counts_below_zero(self):
        for told in ([-1], [-1, 98], [-LARGE]):
            self.assert_refused(told)

    def test_more_than_sixty_bytes(self):
        for count in (61, 62, 69):
            self.assert_refused([count] + [98] * count)

    def test_bytes_that_are_none(self):
        for byte in (-LARGE, -1, 256, 257, LARGE):
            self.assert_refused([1, byte])
            self.assert_refused([2, 98, byte])
            self.assert_refused([2, byte, 98])
        self.assert_refused([60] + [98] * 59 + [256])

    def test_refused_once_it_is_lost(self):
        for call in (call_feed, call_accepts, call_cut):
            told = ask(call_format(ABC), feed_text("ax"), call([1]), call_at())
            self.assertEqual(told[1:], [[0, 1], [-1], [0, 1]])


class TextsThatAreTaken(unittest.TestCase):
    def test_an_empty_text(self):
        told = ask(call_format(ABC), call_feed([0]), feed_text("a"), call_feed([0]), feed_text("x"), call_feed([0]))
        self.assertEqual(told[1:], [[1, 0, 0, 0, 3], [1, 1, 1, 0, 2], [1, 1, 1, 0, 2], [0, 1], [0, 1]])

    def test_sixty_bytes(self):
        text = ("a" * 8 + "b" * 8) * 4
        told = ask(call_format(SIXTY), feed_text(text[:60]), feed_text(text[60:]))
        self.assertEqual(told, [[65, 64], [1, 60, 60, 0, 4], [1, 64, 64, 1, 0]])

    def test_sixty_bytes_of_any_value(self):
        told = ask(call_feed([60] + [0, 255] * 30), call_feed([60] + [97] * 60))
        self.assertEqual(told, [[0, 0], [0, 0]])


class HowStreamsGoOn(unittest.TestCase):
    def test_in_one_or_in_several_feeds(self):
        for text in ("<abc, de, f>", "<a, b, c, d>", "<abcd", "x", "<a,b>", "<a>>", "<a, b, c, d, e>"):
            whole = ask(call_format(NAMES), feed_text(text))[1]
            single = ask(call_format(NAMES), *[feed_text(sign) for sign in text])
            self.assertEqual(single[-1], whole)
            for cut in range(len(text) + 1):
                parts = ask(call_format(NAMES), feed_text(text[:cut]), call_feed([0]), feed_text(text[cut:]))
                self.assertEqual(parts[-1], whole)

    def test_reset_between_forgets(self):
        told = ask(call_format(NAMES), feed_text("<abc"), call_reset(), feed_text("<a"))
        self.assertEqual(told[2], [0])
        self.assertEqual(told[3], ask(call_format(NAMES), feed_text("<a"))[1])

    def test_at_answers_as_feed(self):
        for text in ("", "<", "<ab", "<abc, de", "<a>", "<a>x", "?"):
            told = ask(call_format(NAMES), feed_text(text), call_at(), call_at())
            self.assertEqual(told[2], told[1])
            self.assertEqual(told[3], told[1])

    def test_state_leaves_the_stream(self):
        told = ask(call_format(ABC), feed_text("ab"), call_state(0), call_state(3), call_at())
        self.assertEqual(told[4], [1, 2, 2, 0, 1])


class LostStreams(unittest.TestCase):
    def test_bytes_that_no_format_has(self):
        for byte in list(range(32)) + list(range(127, 256)):
            told = ask(call_format(ABC), feed_text("a"), call_feed([1, byte]), feed_text("b"), call_at())
            self.assertEqual(told[1:], [[1, 1, 1, 0, 2], [0, 1], [0, 1], [0, 1]])

    def test_bytes_that_the_state_does_not_go_with(self):
        for byte in range(256):
            told = ask(call_format(told_row(number(2, 2))), call_feed([3, 49, byte, 49]))[1]
            self.assertEqual(told, [0, 2] if 48 <= byte <= 57 else [0, 1])

    def test_stays_lost_and_counts_no_more(self):
        told = ask(call_format(ABC), feed_text("abxabc"), feed_text("c"), feed_text("abc"), call_at())
        self.assertEqual(told[1:], [[0, 2]] * 4)

    def test_behind_the_end(self):
        told = ask(call_format(ABC), feed_text("abc"), feed_text("a"))
        self.assertEqual(told[1:], [[1, 3, 3, 1, 0], [0, 3]])

    def test_reset_sets_it_back(self):
        told = ask(call_format(ABC), feed_text("ax"), call_reset(), call_at(), feed_text("abc"))
        self.assertEqual(told[1:], [[0, 1], [0], [1, 0, 0, 0, 3], [1, 3, 3, 1, 0]])

    def test_lost_with_the_first_byte(self):
        told = ask(call_format(ABC), feed_text("b"), call_at())
        self.assertEqual(told[1:], [[0, 0], [0, 0]])


class NewObjects(unittest.TestCase):
    def test_the_format_has_no_pieces(self):
        self.assertEqual(ask(call_at(), call_state(0), call_state(1), call_reset(), call_at()),
                         [[1, 0, 0, 1, 0], [1, 0, 0], [-2], [0], [1, 0, 0, 1, 0]])
        self.assertEqual(ask(call_format([0]), call_state(0)), [[1, 0], [1, 0, 0]])

    def test_any_byte_loses_the_stream(self):
        for byte in (0, 32, 97, 126, 255):
            self.assertEqual(ask(call_feed([1, byte]), call_at(), call_reset(), call_at()),
                             [[0, 0], [0, 0], [0], [1, 0, 0, 1, 0]])


class HowManyBytesAreMissing(unittest.TestCase):
    def assert_missing(self, made, text, missing):
        told = ask(call_format(made), feed_text(text))[1]
        self.assertEqual(told[0:2], [1, len(text)])
        self.assertEqual(told[3:], [1 if missing == 0 else 0, missing], text)

    def test_the_shortest_way_counts(self):
        made = told_row(alternatives(told_row(literal("abcdefgh")), told_row(literal("ab"), number(3, 3))))
        for text, missing in (("", 5), ("a", 4), ("ab", 3), ("abc", 5), ("ab1", 2), ("ab123", 0), ("abcdefgh", 0)):
            self.assert_missing(made, text, missing)

    def test_optional_parts_need_not_come(self):
        made = told_row(literal("a"), optional(literal("bcdef")), literal("z"))
        for text, missing in (("", 2), ("a", 1), ("ab", 5), ("abcdef", 1), ("az", 0)):
            self.assert_missing(made, text, missing)

    def test_repeats_need_their_fewest_times(self):
        made = told_row(repeat("; ", 2, 4, literal("ab")))
        for text, missing in (("", 6), ("a", 5), ("ab", 4), ("ab; ab", 0), ("ab; ab;", 3), ("ab; ab; ab; ab", 0)):
            self.assert_missing(made, text, missing)

    def test_words_need_their_fewest_letters(self):
        made = told_row(word(3, 4), literal("."))
        for text, missing in (("", 4), ("q", 3), ("qqq", 1), ("qqqq", 1), ("qqqq.", 0)):
            self.assert_missing(made, text, missing)

    def test_texts_told_by_their_count(self):
        self.assertEqual(call_feed(told_text("105007")), [2, 7, 6, 49, 48, 53, 48, 48, 55])


if __name__ == "__main__":
    unittest.main()
