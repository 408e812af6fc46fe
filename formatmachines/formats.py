"""Formats as they are told by numbers, read to rows of pieces.

A row is a tuple of pieces. A piece is a tuple with its kind first:
(LITERAL, text), (NUMBER, lo, hi), (WORD, lo, hi), (ALTERNATIVES, row, row), (OPTIONAL, row),
(REPEAT, separator, lo, hi, row).
"""

from formatmachines.reading import NotWhole, Reader

LITERAL = 0
NUMBER = 1
WORD = 2
ALTERNATIVES = 3
OPTIONAL = 4
REPEAT = 5

FIRST_BYTE = 32
LAST_BYTE = 126
MOST_BYTES = 8
MOST_TIMES = 4
MOST_PIECES = 14
MOST_GONE_THROUGH = 8


class FormatReader:
    """Reads one format's numbers and knows how many pieces it may still have."""

    def __init__(self, numbers):
        self.reader = Reader(numbers)
        self.pieces_left = MOST_PIECES

    def row(self, repeated):
        # All of a row's pieces are taken off at once, so that a list that nests too deep is refused early.
        count = self.reader.number(0, self.pieces_left)
        self.pieces_left -= count
        return tuple([self.piece(repeated) for step in range(count)])

    def piece(self, repeated):
        kind = self.reader.number(LITERAL, REPEAT)
        if kind == LITERAL:
            return (kind, self.literal())
        if kind == NUMBER or kind == WORD:
            return (kind,) + self.limits(1)
        if kind == ALTERNATIVES:
            return (kind, self.row(repeated), self.row(repeated))
        if kind == OPTIONAL:
            return (kind, self.row(repeated))
        if repeated:
            raise NotWhole("a repeat stands within a repeat")
        return (kind, self.text()) + self.limits(0) + (self.row(True),)

    def literal(self):
        text = self.text()
        if text == ():
            raise NotWhole("a literal has no bytes")
        return text

    def text(self):
        return tuple(self.reader.counted(MOST_BYTES, FIRST_BYTE, LAST_BYTE))

    def limits(self, least):
        lo = self.reader.number(least, MOST_TIMES)
        hi = self.reader.number(lo, MOST_TIMES)
        return (lo, hi)


def read_format(numbers):
    """The row of pieces that the numbers tell, if they are whole a format."""
    format_reader = FormatReader(numbers)
    row = format_reader.row(False)
    format_reader.reader.finish()
    if gone_through(row) > MOST_GONE_THROUGH:
        raise NotWhole("too many pieces are gone through")
    return row


def gone_through(row):
    return sum([gone_through_in(piece) for piece in row])


def gone_through_in(piece):
    kind = piece[0]
    if kind == LITERAL:
        return 0
    if kind == ALTERNATIVES:
        return 1 + max(gone_through(piece[1]), gone_through(piece[2]))
    if kind == OPTIONAL:
        return 1 + gone_through(piece[1])
    if kind == REPEAT:
        return 1 + piece[3] * gone_through(piece[4])
    return 1
