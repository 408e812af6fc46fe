"""What the document's example shows, number by number."""

import unittest

from formatmachines.streams import answers
from helper import (ask, call_cut, call_equal, call_feed, call_format, call_free, call_reset, call_state,
                    call_wished)

ONE_OR_TWO_DIGITS = [1, 1, 1, 2]
AB_OR_A_AND_C = [1, 3, 1, 0, 2, 97, 98, 2, 0, 1, 97, 0, 1, 99]


class Example(unittest.TestCase):
    def test_states_of_a_number(self):
        self.assertEqual(ask(call_format(ONE_OR_TWO_DIGITS), call_state(0), call_state(1), call_state(2)), [
            [3, 20],
            [0, 0, 2, 48, 48, 1, 49, 57, 2],
            [1, 1, 48, 0],
            [1, 1, 49, 1, 48, 57, 1],
        ])

    def test_feeds(self):
        asked = [call_format(ONE_OR_TWO_DIGITS), call_feed([1, 49]), call_feed([1, 50]), call_feed([1, 51]),
                 call_reset(), call_wished()]
        self.assertEqual(ask(*asked)[1:], [[1, 1, 2, 1, 0], [1, 2, 1, 1, 0], [0, 2], [0], [2, 48, 48, 1, 49, 57, 2]])

    def test_cut_and_free(self):
        asked = [call_format(ONE_OR_TWO_DIGITS), call_cut([6, 49, 48, 53, 48, 48, 55]), call_free()]
        self.assertEqual(ask(*asked)[1:], [[4, 2, 2, 1, 1, 6], [2, 32, 47, 0, 58, 126, 0]])

    def test_alternatives(self):
        asked = [call_format(AB_OR_A_AND_C), call_state(1), call_equal([2, 0, 1, 97, 3, 1, 0, 1, 98, 1, 0, 1, 99])]
        self.assertEqual(ask(*asked), [[3, 3], [0, 1, 97, 1, 98, 99, 2], [1]])

    def test_one_list_as_the_interface_tells_it(self):
        calls = [0, 4, 1, 1, 1, 2, 1, 1, 2, 2, 1, 49, 2, 1, 49, 3, 4, 1, 3, 5, 6, 2, 1, 49, 7, 1, 0, 8, 7, 6, 49, 48,
                 53, 48, 48, 55, 9]
        self.assertEqual(answers(calls), [
            2, 3, 20,
            4, 1, 1, 48, 0,
            5, 1, 1, 2, 1, 0,
            1, -1,
            1, 0,
            5, 1, 0, 0, 0, 1,
            1, -2,
            7, 2, 48, 48, 1, 49, 57, 2,
            1, 1,
            1, 0,
            6, 4, 2, 2, 1, 1, 6,
            7, 2, 32, 47, 0, 58, 126, 0,
        ])


if __name__ == "__main__":
    unittest.main()
