"""The machine of each kind of piece, and of kinds within one another."""

import unittest

from helper import (Made, alternatives, ask, ask_machine, call_at, call_feed, call_format, literal, machine_of_texts,
                    machine_of_ways, number, optional, read_row, repeat, texts_of_row, told_row, word)


class MachineTest(unittest.TestCase):
    def assert_machine(self, made, size, states):
        self.assertEqual(ask_machine(made), (size, states), made)

    def assert_right(self, made):
        """The machine is the one that the format's texts, all written out, lead to."""
        expected = machine_of_texts(texts_of_row(read_row(made)[0]))
        self.assertEqual(ask_machine(made), expected, made)


class WrittenOut(MachineTest):
    def test_no_pieces(self):
        self.assert_machine([0], [1, 0], [[1, 0, 0]])

    def test_literal(self):
        self.assert_machine(told_row(literal(" ~")), [3, 2],
                            [[0, 0, 1, 32, 32, 1], [0, 1, 32, 1, 126, 126, 2], [1, 2, 32, 126, 0]])

    def test_number_of_as_many_digits(self):
        self.assert_machine(told_row(number(2, 2)), [3, 20],
                            [[0, 0, 1, 48, 57, 1], [0, 1, 48, 1, 48, 57, 2], [1, 2, 48, 48, 0]])

    def test_number_from_more_than_one_digit_on(self):
        self.assert_machine(told_row(number(2, 3)), [4, 29],
                            [[0, 0, 1, 49, 57, 1], [0, 1, 49, 1, 48, 57, 2], [1, 2, 49, 48, 1, 48, 57, 3],
                             [1, 3, 49, 48, 48, 0]])

    def test_number_of_one_digit(self):
        self.assert_machine(told_row(number(1, 1)), [2, 10], [[0, 0, 1, 48, 57, 1], [1, 1, 48, 0]])

    def test_word(self):
        self.assert_machine(told_row(word(1, 2)), [3, 52],
                            [[0, 0, 1, 97, 122, 1], [1, 1, 97, 1, 97, 122, 2], [1, 2, 97, 97, 0]])

    def test_optional_part(self):
        self.assert_machine(told_row(optional(literal("b")), literal("a")), [3, 3],
                            [[0, 0, 2, 97, 97, 1, 98, 98, 2], [1, 1, 97, 0], [0, 1, 98, 1, 97, 97, 1]])

    def test_repeat_with_a_separator(self):
        self.assert_machine(told_row(repeat(",", 1, 2, literal("a"))), [4, 3],
                            [[0, 0, 1, 97, 97, 1], [1, 1, 97, 1, 44, 44, 2], [0, 2, 97, 44, 1, 97, 97, 3],
                             [1, 3, 97, 44, 97, 0]])

    def test_repeat_without_a_separator_from_no_time_on(self):
        self.assert_machine(told_row(repeat("", 0, 2, literal("a"))), [3, 2],
                            [[1, 0, 1, 97, 97, 1], [1, 1, 97, 1, 97, 97, 2], [1, 2, 97, 97, 0]])

    def test_repeat_of_no_pieces_has_its_separators(self):
        self.assert_machine(told_row(repeat("-", 0, 3)), [3, 2],
                            [[1, 0, 1, 45, 45, 1], [1, 1, 45, 1, 45, 45, 2], [1, 2, 45, 45, 0]])
        self.assert_machine(told_row(repeat("-", 3, 3)), [3, 2],
                            [[0, 0, 1, 45, 45, 1], [0, 1, 45, 1, 45, 45, 2], [1, 2, 45, 45, 0]])

    def test_repeat_of_no_time(self):
        self.assert_machine(told_row(repeat("-", 0, 0, literal("a"))), [1, 0], [[1, 0, 0]])

    def test_states_are_numbered_by_their_least_texts(self):
        made = told_row(alternatives(told_row(literal("b")), told_row(literal("aa"))), literal("c"))
        self.assert_machine(made, [4, 4],
                            [[0, 0, 2, 97, 97, 1, 98, 98, 2], [0, 1, 97, 1, 97, 97, 2], [0, 1, 98, 1, 99, 99, 3],
                             [1, 2, 98, 99, 0]])

    def test_states_that_stand_alike_are_one(self):
        made = told_row(alternatives(told_row(literal("xab")), told_row(literal("yab"))))
        self.assert_machine(made, [4, 4],
                            [[0, 0, 1, 120, 121, 1], [0, 1, 120, 1, 97, 97, 2], [0, 2, 120, 97, 1, 98, 98, 3],
                             [1, 3, 120, 97, 98, 0]])

    def test_ranges_join_only_neighbours(self):
        made = told_row(alternatives(told_row(literal("a")),
                                     told_row(alternatives(told_row(literal("b")), told_row(literal("d"))))))
        self.assert_machine(made, [2, 3], [[0, 0, 2, 97, 98, 1, 100, 100, 1], [1, 1, 97, 0]])

    def test_ranges_join_only_what_leads_to_the_same_state(self):
        made = told_row(alternatives(told_row(number(1, 1)), told_row(literal("5x"))))
        self.assert_machine(made, [3, 11],
                            [[0, 0, 3, 48, 52, 1, 53, 53, 2, 54, 57, 1], [1, 1, 48, 0],
                             [1, 1, 53, 1, 120, 120, 1]])

    def test_ranges_join_across_pieces_of_other_kinds(self):
        made = told_row(alternatives(told_row(number(1, 1)),
                                     told_row(alternatives(told_row(literal("/")), told_row(literal(":"))))))
        self.assert_machine(made, [2, 12], [[0, 0, 1, 47, 58, 1], [1, 1, 47, 0]])

    def test_alternatives_alike_are_as_one(self):
        made = told_row(alternatives(told_row(word(1, 4)), told_row(word(1, 4))))
        self.assertEqual(ask_machine(made), ask_machine(told_row(word(1, 4))))


class AgainstAllTexts(MachineTest):
    def test_numbers(self):
        for lo in range(1, 5):
            for hi in range(lo, 5):
                self.assert_right(told_row(number(lo, hi)))

    def test_words(self):
        for lo, hi in ((1, 1), (1, 2), (2, 2)):
            self.assert_right(told_row(word(lo, hi)))

    def test_longer_words(self):
        for lo in range(1, 5):
            for hi in range(max(lo, 3), 5):
                size, states = ask_machine(told_row(word(lo, hi)))
                self.assertEqual(size, [hi + 1, 26 * hi])
                self.assertEqual([state[0] for state in states], [0] * lo + [1] * (hi + 1 - lo))

    def test_numbers_behind_one_another(self):
        self.assert_right(told_row(number(1, 2), number(1, 2)))
        self.assert_right(told_row(number(1, 2), number(2, 2)))
        self.assert_right(told_row(optional(literal("0")), number(1, 3)))

    def test_alternatives_whose_texts_overlap(self):
        self.assert_right(told_row(alternatives(told_row(literal("if")), told_row(word(1, 2))), literal("f")))
        self.assert_right(told_row(alternatives(told_row(number(1, 2)), told_row(literal("10"), literal("0")))))
        self.assert_right(told_row(alternatives(told_row(literal("ab")), told_row(literal("abab"))), literal("ab")))
        self.assert_right(told_row(alternatives([0], told_row(literal("a"))), literal("aa")))

    def test_optional_parts(self):
        self.assert_right(told_row(optional(literal("ab")), optional(literal("a")), literal("b")))
        self.assert_right(told_row(optional(optional(literal("a")), literal("b"))))
        self.assert_right(told_row(optional(), literal("a"), optional()))

    def test_repeats(self):
        for separator in ("", ",", "a", "ab", ", and "):
            for lo in range(5):
                for hi in range(lo, 5):
                    self.assert_right(told_row(repeat(separator, lo, hi, literal("ab")), literal("a")))
                    self.assert_right(told_row(repeat(separator, lo, hi), literal("b")))
                    self.assert_right(told_row(repeat(separator, lo, hi, optional(literal("a")))))

    def test_kinds_within_one_another(self):
        signed = alternatives(told_row(literal("-")), told_row(optional(literal("+"))))
        self.assert_right(told_row(signed, number(1, 2), optional(literal("."), number(1, 1))))
        self.assert_right(told_row(repeat(",", 0, 2, alternatives(told_row(number(1, 1)), told_row(literal("n/a"))))))
        self.assert_right(told_row(alternatives(told_row(repeat("", 1, 3, literal("ab"))), [0]), optional(word(1, 1))))
        self.assert_right(told_row(repeat("a", 1, 3, optional(word(1, 1)))))
        self.assert_right(told_row(optional(repeat(" ", 2, 2, number(1, 1)), alternatives([0], [0]))))

    def test_empty_rows_within_others(self):
        for piece in (optional(), alternatives([0], [0]), repeat("", 0, 4), repeat("", 4, 4), repeat("", 0, 0)):
            self.assert_machine(told_row(piece), [1, 0], [[1, 0, 0]])
            self.assert_right(told_row(literal("a"), piece, literal("b")))
            self.assert_right(told_row(optional(piece), literal("b")))
        self.assert_right(told_row(repeat("ab", 1, 3, optional(), alternatives([0], [0]))))


class AtEachState(unittest.TestCase):
    """Fed its least text, the stream stands in the state, and knows the way to the nearest end."""

    FORMATS = (
        told_row(literal("id:"), number(2, 4), repeat("/", 0, 3, word(1, 2)), optional(literal(";"))),
        told_row(repeat(",", 1, 4, literal("abcdefgh"), literal("stuvwxyz"), literal("12345678"))),
        told_row(alternatives(told_row(literal("true")), told_row(literal("t"), word(2, 4), literal("!")))),
    )

    def test_every_state(self):
        for made in self.FORMATS:
            states = ask_machine(made)[1]
            missing = self.find_missing(states)
            for number_of_state, state in enumerate(states):
                text = state[2:2 + state[1]]
                feeds = [call_feed([len(text[at:at + 60])] + text[at:at + 60]) for at in range(0, len(text), 60)]
                told = ask(call_format(made), *feeds, call_at())[-1]
                self.assertEqual(told, [1, len(text), number_of_state, state[0], missing[number_of_state]])

    def find_missing(self, states):
        missing = [0 if state[0] else None for state in states]
        for _ in states:
            for number_of_state, state in enumerate(states):
                ahead = [missing[there] for there in state[5 + state[1]::3] if missing[there] is not None]
                if not state[0] and ahead:
                    missing[number_of_state] = 1 + min(ahead)
        return missing


class AgainstOtherWays(MachineTest):
    def test_formats_made_up(self):
        made_up = Made(7)
        taken = 0
        while taken < 150:
            made = made_up.row(2, False, made_up.chosen.choice(("a", "ab", "01", "a1,", " ~z9")))
            if len(made) <= 200 and ask(call_format(made)) != [[-1]]:
                found = machine_of_ways(made)
                if found is not None:
                    taken += 1
                    self.assertEqual(ask_machine(made), found[1], made)


if __name__ == "__main__":
    unittest.main()
