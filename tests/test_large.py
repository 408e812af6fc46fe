"""Large formats that the document lets be handed in, and lines of 30 calls."""

import unittest

from helper import (accepts_text, ask, ask_machine, call_at, call_equal, call_feed, call_format, call_free, call_reset,
                    call_state, call_wished, cut_text, feed_text, literal, machine_of_ways, number, optional, repeat,
                    told_row, word)

# Where ways in order are told apart it has 1982 states, and they are all needed.
MOST_STATES = told_row(
    literal("a"), number(4, 4),
    repeat("", 1, 3, word(1, 4), literal("a")),
    word(4, 4), word(3, 3), literal("aaa"),
)
# Where ways in order are told apart it has 1971 states, of which 1116 are needed.
MOST_MERGED = told_row(
    word(1, 4),
    repeat("a", 1, 3, word(1, 4), literal("a"), word(3, 4), literal("aa")),
    literal("a"),
)
ALL_BYTES = "".join(chr(byte) for byte in range(32, 127))


class LargeMachines(unittest.TestCase):
    def test_every_state_needed(self):
        ways, machine = machine_of_ways(MOST_STATES)
        self.assertEqual((ways, machine[0]), (1982, [1982, 51042]))
        self.assertEqual(ask_machine(MOST_STATES), machine)

    def test_many_states_merged(self):
        ways, machine = machine_of_ways(MOST_MERGED)
        self.assertEqual((ways, machine[0]), (1971, [1116, 28140]))
        self.assertEqual(ask_machine(MOST_MERGED), machine)

    def test_streams_through_them(self):
        told = ask(call_format(MOST_STATES), feed_text("a0429" + "bcdea" * 3), feed_text("abcdxyzaa"),
                   feed_text("a"), feed_text("a"))
        self.assertEqual([answer[0:2] for answer in told[1:]], [[1, 20], [1, 29], [1, 30], [0, 30]])
        self.assertEqual(told[3][3:], [1, 0])

    def test_states_at_and_above_their_count(self):
        told = ask(call_format(MOST_STATES), call_state(1981), call_state(1982), call_state(2000))
        self.assertEqual(told[1], ask_machine(MOST_STATES)[1][1981])
        self.assertEqual(told[2:], [[-2], [-2]])


class LongTexts(unittest.TestCase):
    MADE = told_row(repeat("--------", 4, 4, *[literal("abcdefgh")] * 13))
    TEXT = "--------".join(["abcdefgh" * 13] * 4)

    def test_the_longest_text_a_format_may_have(self):
        length = len(self.TEXT)
        self.assertEqual(length, 440)
        told = ask(call_format(self.MADE), call_state(length), call_state(length + 1))
        self.assertEqual(told, [[441, 440], [1, 440] + [ord(sign) for sign in self.TEXT] + [0], [-2]])

    def test_fed_in_parts(self):
        feeds = [feed_text(self.TEXT[at:at + 60]) for at in range(0, 440, 60)]
        told = ask(call_format(self.MADE), *feeds, call_at())
        self.assertEqual(told[-3:], [[1, 420, 420, 0, 20], [1, 440, 440, 1, 0], [1, 440, 440, 1, 0]])

    def test_the_longest_lists(self):
        made = told_row(*[repeat("12345678", 0, 4)] * 8, *[literal("abcdefgh")] * 6)
        told = ask(call_format(made), call_format([1, 0, 200] + [97] * 197), call_feed([70] + [97] * 69), call_at())
        self.assertEqual(told, [[241, 192 + 25 + 47], [-1], [-1], [1, 0, 0, 0, 48]])


class EveryByte(unittest.TestCase):
    def test_all_bytes_in_a_row(self):
        parts = [ALL_BYTES[at:at + 8] for at in range(0, 95, 8)]
        made = told_row(*[literal(part) for part in parts])
        size, states = ask_machine(made)
        self.assertEqual(size, [96, 95])
        self.assertEqual(states[95], [1, 95] + list(range(32, 127)) + [0])

    def test_a_choice_of_many_first_bytes(self):
        made = told_row(*[optional(literal(sign)) for sign in "!#%')+-"])
        size, states = ask_machine(made)
        self.assertEqual(size, [8, 28])
        self.assertEqual(states[0], [1, 0, 7] + sum([[33 + 2 * at, 33 + 2 * at, 1 + at] for at in range(7)], []))


class ThirtyCalls(unittest.TestCase):
    def test_thirty_large_formats(self):
        told = ask(*[call_format(MOST_STATES), call_format(MOST_MERGED)] * 15)
        self.assertEqual(told, [[1982, 51042], [1116, 28140]] * 15)

    def test_thirty_large_formats_compared(self):
        told = ask(call_format(MOST_STATES), *[call_equal(MOST_MERGED), call_equal(MOST_STATES)] * 14, call_free())
        self.assertEqual(told[1:], [[0], [1]] * 14 + [[3, 32, 47, 0, 58, 96, 0, 123, 126, 0]])

    def test_large_formats_alike_but_in_their_last_bytes(self):
        otherwise = [7] + MOST_STATES[1:-5] + literal("a") + literal("aa")
        told = ask(call_format(MOST_STATES), call_equal(otherwise), call_equal(MOST_STATES[:-1] + [98]))
        self.assertEqual(told, [[1982, 51042], [1], [0]])

    def test_large_machines_read_texts(self):
        text = "a0429" + "bcdea" + "abcd" + "xyz" + "aaa"
        told = ask(call_format(MOST_STATES), accepts_text(text), accepts_text(text[:-1]), cut_text(text * 3),
                   cut_text(text * 2 + "a"), feed_text(text[:5]), call_wished())
        self.assertEqual(told[1:], [[1], [0], [3, 20, 20, 20, 60], [2, 20, 20, 40], [1, 5, 5, 0, 12],
                                    [1, 97, 122, 6]])

    def test_all_kinds_of_calls(self):
        made = told_row(repeat(",", 1, 4, number(1, 2)))
        ten = [call_format(made), feed_text("1"), call_at(), call_state(1), call_feed([2, 48]), feed_text("2,"),
               call_format([9]), call_reset(), call_state(-1), feed_text("x")]
        told = ask(*ten * 3)
        self.assertEqual(len(told), 30)
        self.assertEqual(told[0:10], told[10:20])
        self.assertEqual(told[0:10], told[20:30])
        self.assertEqual([answer[0] for answer in told[0:10]], [12, 1, 1, 1, -1, 1, -1, 0, -2, 0])


if __name__ == "__main__":
    unittest.main()
