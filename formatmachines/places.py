"""Formats taken apart into places, at each of which one byte is read.

A place is (first byte, last byte, after): it reads a byte from the first one to the last one, and after is the
set of the places that may come then. A set of places is a whole number with one bit for each place; the bit END
stands in it if nothing more need be read.
"""

from formatmachines.formats import ALTERNATIVES, LITERAL, NUMBER, OPTIONAL, WORD

END = 1
ZERO = 48
ONE = 49
NINE = 57
LETTER_A = 97
LETTER_Z = 122


class Places:
    """The places of one format, each with its bit, and the set of those that it begins with."""

    def __init__(self, row):
        self.bits = {}
        self.beginning = self.before_row(row, END)

    def read_one(self, first, last, after):
        """The set of the one place that reads from first to last ahead of after.

        A format is taken apart from its end on, so each place has a higher bit than all places after it: with
        each byte that is read a set becomes a smaller number.
        """
        place = (first, last, after)
        if place not in self.bits:
            self.bits[place] = 2 * END << len(self.bits)
        return self.bits[place]

    def before_row(self, row, after):
        for piece in reversed(row):
            after = self.before_piece(piece, after)
        return after

    def before_piece(self, piece, after):
        kind = piece[0]
        if kind == LITERAL:
            return self.before_text(piece[1], after)
        if kind == NUMBER:
            return self.before_number(piece[1], piece[2], after)
        if kind == WORD:
            return self.before_several(LETTER_A, LETTER_Z, piece[1], piece[2], after)
        if kind == ALTERNATIVES:
            return self.before_row(piece[1], after) | self.before_row(piece[2], after)
        if kind == OPTIONAL:
            return self.before_row(piece[1], after) | after
        return self.before_repeat(piece, after)

    def before_text(self, text, after):
        for byte in reversed(text):
            after = self.read_one(byte, byte, after)
        return after

    def before_number(self, lo, hi, after):
        if lo == hi:
            return self.before_several(ZERO, NINE, lo, hi, after)
        others = self.before_several(ZERO, NINE, lo - 1, hi - 1, after)
        before = self.read_one(ONE, NINE, others)
        if lo == 1:
            # The number 0 is the only one whose first digit is a zero.
            before |= self.read_one(ZERO, ZERO, after)
        return before

    def before_several(self, first, last, lo, hi, after):
        """The set ahead of lo to hi bytes, each from first to last."""
        before = after
        for count in range(1, hi + 1):
            before = self.read_one(first, last, before)
            if count <= hi - lo:
                before |= after
        return before

    def before_repeat(self, piece, after):
        separator = piece[1]
        lo = piece[2]
        hi = piece[3]
        before = after
        for turn in range(hi, 0, -1):
            before = self.before_row(piece[4], before)
            if turn > 1:
                before = self.before_text(separator, before)
            if turn > lo:
                before |= after
        return before
