"""The call wished: what may come where the stream stands."""

import unittest

from helper import (alternatives, ask, ask_machine, call_at, call_equal, call_feed, call_format, call_reset,
                    call_wished, cut_text, feed_text, literal, number, optional, repeat, told_row, word)

ABC = told_row(literal("abc"))
DATE = told_row(number(4, 4), literal("-"), number(1, 2))
KEYS = told_row(word(1, 2), repeat(";", 0, 2, literal("="), number(1, 1)), optional(literal("!")))


class Wished(unittest.TestCase):
    def assert_wished(self, made, text, ranges):
        self.assertEqual(ask(call_format(made), feed_text(text), call_wished())[2], ranges, text)

    def test_at_the_beginning(self):
        self.assertEqual(ask(call_format(DATE), call_wished())[1], [1, 48, 57, 1])
        self.assert_wished(DATE, "", [1, 48, 57, 1])
        self.assert_wished(KEYS, "", [1, 97, 122, 1])

    def test_of_a_new_object(self):
        self.assertEqual(ask(call_wished()), [[0]])

    def test_behind_some_bytes(self):
        self.assert_wished(DATE, "2026", [1, 45, 45, 5])
        self.assert_wished(DATE, "2026-", [2, 48, 48, 6, 49, 57, 7])
        self.assert_wished(DATE, "2026-1", [1, 48, 57, 6])
        self.assert_wished(KEYS, "q", [3, 33, 33, 2, 61, 61, 3, 97, 122, 4])
        self.assert_wished(KEYS, "q=7", [2, 33, 33, 2, 59, 59, 6])

    def test_in_a_state_that_goes_with_no_byte(self):
        self.assert_wished(DATE, "2026-0", [0])
        self.assert_wished(DATE, "2026-11", [0])
        self.assert_wished(ABC, "abc", [0])
        self.assert_wished([0], "", [0])

    def test_lost(self):
        self.assert_wished(ABC, "b", [0])
        self.assert_wished(ABC, "abx", [0])
        self.assert_wished(ABC, "abca", [0])
        self.assert_wished([0], "a", [0])
        for byte in (0, 31, 127, 255):
            self.assertEqual(ask(call_format(ABC), call_feed([1, byte]), call_wished())[2], [0])

    def test_behind_reset(self):
        for text in ("", "ab", "abc", "x"):
            told = ask(call_format(ABC), feed_text(text), call_reset(), call_wished())
            self.assertEqual(told[3], [1, 97, 97, 1])

    def test_behind_a_new_format(self):
        for text in ("", "ab", "abc", "x"):
            told = ask(call_format(ABC), feed_text(text), call_format(DATE), call_wished())
            self.assertEqual(told[3], [1, 48, 57, 1])

    def test_behind_refused_calls(self):
        told = ask(call_format(ABC), feed_text("a"), call_format([1]), call_feed([1]), call_equal([]), call_wished())
        self.assertEqual(told[5], [1, 98, 98, 2])

    def test_ranges_are_those_of_the_state(self):
        made = told_row(alternatives(told_row(number(1, 2)), told_row(literal("5x"))), literal("9:"))
        states = ask_machine(made)[1]
        for state in states:
            text = state[2:2 + state[1]]
            told = ask(call_format(made), call_feed([len(text)] + text), call_wished())[2]
            self.assertEqual(told, state[2 + state[1]:])

    def test_changes_nothing(self):
        for text in ("", "ab", "abc", "abx"):
            told = ask(call_format(ABC), feed_text(text), call_wished(), call_wished(), call_at(), cut_text("abc"))
            self.assertEqual(told[3], told[2])
            self.assertEqual(told[4], told[1])
            self.assertEqual(told[5], [1, 3, 3])


if __name__ == "__main__":
    unittest.main()
