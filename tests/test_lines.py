"""Lines that mix all ten calls, against answers worked out call by call in other ways."""

import unittest

from helper import (Made, accepts_text, alternatives, ask, call_accepts, call_at, call_cut, call_equal, call_feed,
                    call_format, call_free, call_reset, call_state, call_wished, cut_of_row, cut_text, ends_in,
                    feed_text, free_of_row, literal, machine_of_ways, number, optional, read_row, repeat, told_row,
                    told_text, word)

BAD_TEXTS = ([], [1], [0, 97], [2, 97, 256], [-1], [61] + [97] * 61)
BAD_FORMATS = ([], [1], [0, 0], [1, 6], [1, 0, 1, 31], [1, 1, 2, 1])


class Expected:
    """What an object has to answer, from the machine that ways in order lead to."""

    def __init__(self):
        self.take(call_format([0]))

    def take(self, call):
        told = call[2:]
        if call[0] in (0, 7) and told in BAD_FORMATS or call[0] in (2, 6, 8) and told in BAD_TEXTS:
            return [-1]
        if call[0] == 0:
            return self.take_format(told)
        if call[0] == 1:
            return self.states[call[1]] if 0 <= call[1] < len(self.states) else [-2]
        if call[0] == 2:
            return self.feed(told[1:])
        if call[0] in (3, 4):
            return self.reset() if call[0] == 3 else self.at()
        if call[0] == 5:
            return [0] if self.state is None else self.ranges_of(self.state)
        if call[0] == 6:
            return [1 if len(told) - 1 in ends_in(self.row, tuple(told[1:]), 0) else 0]
        if call[0] == 7:
            return [1 if machine_of_ways(told)[1][1] == self.states else 0]
        return cut_of_row(self.row, tuple(told[1:])) if call[0] == 8 else free_of_row(self.row)

    def take_format(self, made):
        self.row = read_row(made)[0]
        size, self.states = machine_of_ways(made)[1]
        self.reset()
        return size

    def reset(self):
        self.state = 0
        self.had = 0
        return [0]

    def feed(self, text):
        for byte in text:
            if self.state is not None:
                self.state = self.goes(self.state, byte)
                self.had += 0 if self.state is None else 1
        return self.at()

    def at(self):
        if self.state is None:
            return [0, self.had]
        missing = 0
        here = {self.state}
        while not any(self.states[state][0] for state in here):
            here = {there for state in here for there in self.ranges_of(state)[3::3]}
            missing += 1
        return [1, self.had, self.state, self.states[self.state][0], missing]

    def ranges_of(self, state):
        told = self.states[state]
        return told[2 + told[1]:]

    def goes(self, state, byte):
        ranges = self.ranges_of(state)
        for first, last, there in zip(ranges[1::3], ranges[2::3], ranges[3::3]):
            if first <= byte <= last:
                return there
        return None


class MadeCalls(Made):
    """Lines made up one after another, from a beginning that is always the same."""

    def line(self, signs):
        calls = [self.new_format(signs)]
        while len(calls) < 30:
            calls.append(self.call(signs))
        return calls

    def call(self, signs):
        kind = self.chosen.choice((0, 1, 1, 2, 2, 2, 2, 2, 3, 4, 5, 5, 6, 6, 6, 7, 7, 8, 8, 8, 9))
        bad = self.chosen.random() < 0.15
        if kind in (0, 7):
            if bad:
                return (call_format, call_equal)[kind == 7](list(self.chosen.choice(BAD_FORMATS)))
            return self.new_format(signs) if kind == 0 else call_equal(self.format_near(signs))
        if kind in (2, 6, 8):
            call = {2: call_feed, 6: call_accepts, 8: call_cut}[kind]
            if bad:
                return call(list(self.chosen.choice(BAD_TEXTS)))
            text = self.bytes_to_feed() if kind == 2 else self.text_near()
            return call([len(text)] + text)
        if kind == 3:
            self.ahead = self.text_near()
        return call_state(self.chosen.randint(-1, 9)) if kind == 1 else [kind]

    def new_format(self, signs):
        self.made = self.good_format(signs)
        self.ahead = self.text_near()
        return call_format(self.made)

    def good_format(self, signs):
        while True:
            made = self.row(2, False, signs)
            if self.is_good(made) and made != [0]:
                return made

    def is_good(self, made):
        return len(made) <= 200 and ask(call_format(made)) != [[-1]] and machine_of_ways(made, 300) is not None

    def format_near(self, signs):
        """Often the stream's format with a part more, that has no byte or one."""
        part = optional(*[literal("a")] * self.chosen.randint(0, 1))
        made = [self.made[0] + 1] + self.made[1:] + part
        return made if self.chosen.random() < 0.7 and self.is_good(made) else self.good_format(signs)

    def bytes_to_feed(self):
        count = self.chosen.randint(0, 3)
        text = self.ahead[:count]
        self.ahead = self.ahead[count:]
        return text

    def text_near(self):
        """Some prints behind one another, now and then cut or with a byte that is another one."""
        row = read_row(self.made)[0]
        text = sum([self.print_of(row) for _ in range(self.chosen.randint(1, 3))], [])[:60]
        if self.chosen.random() < 0.3:
            text = text[:self.chosen.randint(0, len(text))]
        if text and self.chosen.random() < 0.2:
            text[self.chosen.randrange(len(text))] = self.chosen.choice((0, 32, 48, 97, 126, 255))
        return text

    def print_of(self, row):
        return sum([self.print_of_piece(piece) for piece in row], [])

    def print_of_piece(self, piece):
        kind = piece[0]
        if kind == "literal":
            return list(piece[1])
        if kind == "alternatives":
            return self.print_of(self.chosen.choice(piece[1:]))
        if kind == "optional":
            return self.print_of(piece[1]) if self.chosen.random() < 0.7 else []
        if kind == "repeat":
            times = self.chosen.randint(piece[2], piece[3])
            turns = [self.print_of(piece[4]) + list(piece[1]) for _ in range(times - 1)]
            return sum(turns, []) + (self.print_of(piece[4]) if times else [])
        count = self.chosen.randint(piece[1], piece[2])
        first, last = (97, 122) if kind == "word" else (49, 57)
        return [self.chosen.randint(first, last) for _ in range(count)]


class LinesMadeUp(unittest.TestCase):
    def test_against_answers_worked_out_otherwise(self):
        made_up = MadeCalls(11)
        for signs in ("a", "ab", "01", "a1,", " ~z9") * 16:
            calls = made_up.line(signs)
            expected = Expected()
            self.assertEqual(ask(*calls), [expected.take(call) for call in calls], calls)


class LinesOfThirtyCalls(unittest.TestCase):
    MADE = told_row(literal("<"), repeat(", ", 1, 3, alternatives(told_row(number(1, 2)), told_row(word(1, 1)))),
                    optional(literal("!")), literal(">"))
    TEN = [call_format(MADE), feed_text("<a, 1"), call_at(), call_state(0), call_wished(), call_reset(),
           accepts_text("<7, q!>"), call_equal([0]), cut_text("<a><0>!"), call_free()]

    def test_all_ten_calls_three_times(self):
        told = ask(*self.TEN * 3)
        self.assertEqual(told[:10], [
            [14, 158],
            [1, 5, 9, 0, 1],
            [1, 5, 9, 0, 1],
            [0, 0, 1, 60, 60, 1],
            [4, 33, 33, 4, 44, 44, 10, 48, 57, 8, 62, 62, 6],
            [0],
            [1],
            [0],
            [2, 3, 3, 6],
            [6, 34, 43, 0, 45, 47, 0, 58, 59, 0, 61, 61, 0, 63, 96, 0, 123, 126, 0],
        ])
        self.assertEqual(told[10:], told[:10] * 2)

    def test_against_answers_worked_out_otherwise(self):
        expected = Expected()
        self.assertEqual(ask(*self.TEN * 3), [expected.take(call) for call in self.TEN * 3])

    def test_one_kind_of_call_thirty_times(self):
        for call in (call_format(self.MADE), call_state(0), call_at(), call_wished(), call_reset(), call_free(),
                     accepts_text("<a>"), call_equal(self.MADE), cut_text("<a><b>x")):
            told = ask(call_format(self.MADE), *[call] * 29)
            self.assertEqual(told[1:], told[1:2] * 29)
        self.assertEqual(ask(*[call_equal(self.MADE)] * 30), [[0]] * 30)
        self.assertEqual(ask(*[call_free()] * 30), [[1, 32, 126, 0]] * 30)
        self.assertEqual(ask(*[cut_text("a" * 60)] * 30), [[0, 0]] * 30)


class ACallAlone(unittest.TestCase):
    def test_each_call(self):
        for call, answer in ((call_format([1, 1, 1, 2]), [3, 20]), (call_state(0), [1, 0, 0]), (call_state(1), [-2]),
                             (feed_text(""), [1, 0, 0, 1, 0]), (feed_text("a"), [0, 0]), (call_reset(), [0]),
                             (call_at(), [1, 0, 0, 1, 0]), (call_wished(), [0]), (accepts_text(""), [1]),
                             (accepts_text("a"), [0]), (call_equal([0]), [1]), (call_equal([1, 1, 1, 2]), [0]),
                             (cut_text("a"), [0, 0]), (cut_text(""), [0, 0]), (call_free(), [1, 32, 126, 0])):
            self.assertEqual(ask(call), [answer], call)

    def test_each_refusal(self):
        for call in (call_format([]), call_feed([]), call_accepts([]), call_equal([]), call_cut([])):
            self.assertEqual(ask(call), [[-1]], call)


class CallsBehindOneAnother(unittest.TestCase):
    """What each call that changes something does for those behind it."""

    def test_they_tell_of_one_and_the_same_machine(self):
        made = told_row(literal("a"), number(1, 2))
        told = ask(call_format(made), feed_text("a1"), call_equal(told_row(word(1, 4))), call_at(), call_wished(),
                   call_format(told_row(word(1, 2))), call_at(), call_equal(made), cut_text("aab1"), call_free(),
                   feed_text("z"), call_wished(), call_reset(), accepts_text("zz"))
        self.assertEqual(told, [
            [4, 21], [1, 2, 3, 1, 0], [0], [1, 2, 3, 1, 0], [1, 48, 57, 2],
            [3, 52], [1, 0, 0, 0, 1], [0], [2, 2, 1, 3], [2, 32, 96, 0, 123, 126, 0],
            [1, 1, 1, 1, 0], [1, 97, 122, 2], [0], [1],
        ])

    def test_texts_are_told_by_their_own_count(self):
        self.assertEqual(call_cut(told_text("105007")), [8, 7, 6, 49, 48, 53, 48, 48, 55])


if __name__ == "__main__":
    unittest.main()
