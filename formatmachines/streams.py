"""A format's machine and a stream read by it, and the calls on them."""

from formatmachines.formats import read_format
from formatmachines.machines import Machine
from formatmachines.reading import NotWhole, Reader, read_text

FORMAT = 0
STATE = 1
FEED = 2
RESET = 3
AT = 4
WISHED = 5
ACCEPTS = 6
EQUAL = 7
CUT = 8
FREE = 9

LARGEST = 1000000000000000000
MOST_FORMAT_NUMBERS = 200
MOST_TEXT_NUMBERS = 70
MOST_TEXT_BYTES = 60


class Stream:
    """A format's machine, with where its stream stands: state is None if it's lost."""

    def __init__(self):
        self.machine = Machine(())
        self.state = 0
        self.had = 0

    def take_format(self, row):
        self.machine = Machine(row)
        self.reset()
        return [len(self.machine.ranges), self.machine.bytes_gone()]

    def tell_state(self, state):
        machine = self.machine
        if state < 0 or state >= len(machine.ranges):
            return [-2]
        text = machine.least_text(state)
        return [machine.ends[state], len(text)] + text + tell_ranges(machine.ranges[state])

    def feed(self, text):
        for byte in text:
            self.take_byte(byte)
        return self.at()

    def take_byte(self, byte):
        if self.state is not None:
            self.state = self.machine.goes(self.state, byte)
        if self.state is not None:
            self.had += 1

    def reset(self):
        self.state = 0
        self.had = 0
        return [0]

    def at(self):
        if self.state is None:
            return [0, self.had]
        return [1, self.had, self.state, self.machine.ends[self.state], self.machine.missing[self.state]]

    def wished(self):
        if self.state is None:
            return tell_ranges([])
        return tell_ranges(self.machine.ranges[self.state])

    def accepts(self, text):
        return [self.machine.has_text(text)]

    def equal(self, row):
        return [1 if self.machine.has_same_texts(Machine(row)) else 0]

    def cut(self, text):
        lengths = []
        behind = 0
        longest = self.machine.longest_piece(text, behind)
        while longest > 0:
            lengths.append(longest)
            behind += longest
            longest = self.machine.longest_piece(text, behind)
        return [len(lengths)] + lengths + [behind]

    def free(self):
        return tell_ranges(self.machine.free_ranges())


def tell_ranges(ranges):
    told = [len(ranges)]
    for one in ranges:
        told.extend(one)
    return told


def answer(stream, reader):
    """What the stream answers to the call that stands next in the reader."""
    call = reader.number(FORMAT, FREE)
    if call == STATE:
        return stream.tell_state(reader.number(-LARGEST, LARGEST))
    if call == FORMAT or call == EQUAL:
        return answer_with_format(stream, call, reader.counted(MOST_FORMAT_NUMBERS, -LARGEST, LARGEST))
    if call == FEED or call == ACCEPTS or call == CUT:
        return answer_with_text(stream, call, reader.counted(MOST_TEXT_NUMBERS, -LARGEST, LARGEST))
    return answer_alone(stream, call)


def answer_with_format(stream, call, numbers):
    try:
        row = read_format(numbers)
    except NotWhole:
        return [-1]
    if call == FORMAT:
        return stream.take_format(row)
    return stream.equal(row)


def answer_with_text(stream, call, numbers):
    try:
        text = read_text(numbers, MOST_TEXT_BYTES)
    except NotWhole:
        return [-1]
    if call == FEED:
        return stream.feed(text)
    if call == ACCEPTS:
        return stream.accepts(text)
    return stream.cut(text)


def answer_alone(stream, call):
    if call == RESET:
        return stream.reset()
    if call == AT:
        return stream.at()
    if call == WISHED:
        return stream.wished()
    return stream.free()


def answers(calls):
    """What a new object answers to the calls, one behind another."""
    stream = Stream()
    reader = Reader(calls)
    given = []
    while not reader.finished():
        told = answer(stream, reader)
        given.append(len(told))
        given.extend(told)
    return given
