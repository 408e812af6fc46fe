"""How calls are handed in and answers given back."""

import unittest

from formatmachines.streams import answers
from helper import (accepts_text, alternatives, call_accepts, call_at, call_cut, call_equal, call_feed, call_format,
                    call_free, call_reset, call_state, call_wished, cut_text, feed_text, literal, number, repeat,
                    told_row, word)

MADE = told_row(literal("#"), repeat(" ", 0, 3, alternatives(told_row(number(1, 2)), told_row(word(1, 2)))))
CALLS = (call_format(MADE) + feed_text("#12 ") + call_state(1) + call_at() + call_format([1, 1, 2, 1])
         + call_state(-5) + call_feed([2, 1]) + call_reset() + call_wished() + accepts_text("#1 ab") + call_equal(MADE)
         + cut_text("#1##a ") + call_accepts([2]) + call_cut([-1]) + call_equal([1]) + call_free() + feed_text("?")
         + call_wished() + call_at())


class Answers(unittest.TestCase):
    def test_what_is_handed_in_stays_as_it_was(self):
        calls = list(CALLS)
        answers(calls)
        self.assertEqual(calls, CALLS)

    def test_twice_the_same(self):
        first = answers(list(CALLS))
        kept = list(first)
        second = answers(list(CALLS))
        self.assertEqual(first, kept)
        self.assertEqual(second, kept)
        self.assertIsNot(first, second)

    def test_changing_an_answer_changes_no_later_one(self):
        first = answers(list(CALLS))
        kept = list(first)
        first.clear()
        self.assertEqual(answers(list(CALLS)), kept)

    def test_nothing_is_kept_for_the_next_line(self):
        answers(call_format(MADE) + feed_text("#1"))
        self.assertEqual(answers(call_at()), [5, 1, 0, 0, 1, 0])
        answers(feed_text("x"))
        self.assertEqual(answers(call_at()), [5, 1, 0, 0, 1, 0])
        answers(call_format(MADE))
        self.assertEqual(answers(call_wished() + accepts_text("#") + call_equal([0]) + cut_text("#") + call_free()),
                         [1, 0, 1, 0, 1, 1, 2, 0, 0, 4, 1, 32, 126, 0])

    def test_whole_numbers_in_one_list(self):
        given = answers(list(CALLS))
        self.assertIs(type(given), list)
        self.assertEqual({type(one) for one in given}, {int})

    def test_each_answer_has_its_count_ahead(self):
        self.assertEqual(answers(call_format([])), [1, -1])
        self.assertEqual(answers(call_feed([])), [1, -1])
        self.assertEqual(answers(call_state(1)), [1, -2])
        self.assertEqual(answers(call_accepts([])), [1, -1])
        self.assertEqual(answers(call_equal([])), [1, -1])
        self.assertEqual(answers(call_cut([])), [1, -1])
        self.assertEqual(answers(call_reset()), [1, 0])
        self.assertEqual(answers(call_wished()), [1, 0])
        self.assertEqual(answers(call_accepts([0])), [1, 1])
        self.assertEqual(answers(call_equal([0])), [1, 1])
        self.assertEqual(answers(call_cut([0])), [2, 0, 0])
        self.assertEqual(answers(call_free()), [4, 1, 32, 126, 0])
        self.assertEqual(answers(call_state(0)), [3, 1, 0, 0])
        self.assertEqual(answers(feed_text("a")), [2, 0, 0])
        self.assertEqual(answers(call_format(told_row(literal("a"))) + call_state(0) + call_at()),
                         [2, 2, 1, 6, 0, 0, 1, 97, 97, 1, 5, 1, 0, 0, 0, 1])

    def test_lists_that_look_like_calls_are_not_read_as_such(self):
        self.assertEqual(answers(call_format([3, 4]) + call_feed([4]) + call_at()),
                         [1, -1, 1, -1, 5, 1, 0, 0, 1, 0])
        self.assertEqual(answers(call_accepts([9, 9]) + call_equal([5]) + call_cut([4, 4, 4]) + call_wished()),
                         [1, -1, 1, -1, 1, -1, 1, 0])


if __name__ == "__main__":
    unittest.main()
