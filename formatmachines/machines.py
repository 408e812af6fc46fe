"""The least machine of a format."""

from formatmachines.formats import FIRST_BYTE, LAST_BYTE
from formatmachines.places import END, Places


class Paths:
    """Which sets of a format's places are reached from which by its bytes."""

    def __init__(self, row):
        places = Places(row)
        self.beginning = places.beginning
        self.spans = spans_read(places.bits)
        self.after = {}
        for place, bit in places.bits.items():
            self.after[bit] = place[2]
        self.joined = {}

    def after_all(self, readers):
        """All that may come after any of the places in readers."""
        if readers not in self.joined:
            joined = 0
            left = readers
            while left:
                bit = left & -left
                joined |= self.after[bit]
                left -= bit
            self.joined[readers] = joined
        return self.joined[readers]

    def moves(self, here):
        """The spans, by their numbers, whose bytes go on from the set here, each with the set it leads to."""
        moves = []
        for number, span in enumerate(self.spans):
            readers = here & span[2]
            if readers:
                moves.append((number, self.after_all(readers)))
        return moves

    def reached(self):
        """All sets that are reached, each with its moves."""
        reached = {}
        waiting = [self.beginning]
        while waiting:
            here = waiting.pop()
            if here not in reached:
                reached[here] = self.moves(here)
                waiting.extend([move[1] for move in reached[here]])
        return reached


def spans_read(bits):
    """The bytes that are read, in spans (first, last, the places that read them), cut wherever a place may tell
    two bytes apart."""
    cuts = sorted(set([place[0] for place in bits]) | set([place[1] + 1 for place in bits]))
    spans = []
    for first, behind in zip(cuts, cuts[1:]):
        readers = sum([bits[place] for place in bits if place[0] <= first and behind <= place[1] + 1])
        if readers:
            spans.append((first, behind - 1, readers))
    return spans


class Merged:
    """The sets of places that stand alike made one: numbers for them, with their ends, moves and what's missing."""

    def __init__(self, reached):
        self.numbers_of_sets = {}
        self.ends = []
        self.moves_on = []
        self.missing = []
        known = {}
        # A move leads to a smaller set, so where a set leads is merged ahead of it.
        for here in sorted(reached):
            moves = tuple([(span, self.numbers_of_sets[there]) for span, there in reached[here]])
            ends = here & END
            if (ends, moves) not in known:
                known[(ends, moves)] = len(known)
                self.add_state(ends, moves)
            self.numbers_of_sets[here] = known[(ends, moves)]

    def add_state(self, ends, moves):
        self.ends.append(ends)
        self.moves_on.append(moves)
        if ends:
            self.missing.append(0)
        else:
            self.missing.append(1 + min([self.missing[there] for span, there in moves]))


class Machine:
    """A format's machine: lists with, for each state, what it is."""

    def __init__(self, row):
        paths = Paths(row)
        merged = Merged(paths.reached())
        self.origins = []
        order = self.order_states(paths, merged)
        self.ends = [merged.ends[old] for old in order]
        self.missing = [merged.missing[old] for old in order]
        renumbered = {}
        for state, old in enumerate(order):
            renumbered[old] = state
        self.ranges = [join_ranges(paths.spans, merged.moves_on[old], renumbered) for old in order]

    def order_states(self, paths, merged):
        """The merged states in the order of their least texts.

        Whoever goes by rising bytes from states in this order meets each state first by its least text; its
        origin is that text's last byte with the state ahead of it.
        """
        order = [merged.numbers_of_sets[paths.beginning]]
        met = {order[0]: True}
        self.origins.append(None)
        state = 0
        while state < len(order):
            moves = merged.moves_on[order[state]]
            for span, there in moves:
                if there not in met:
                    met[there] = True
                    order.append(there)
                    self.origins.append((state, paths.spans[span][0]))
            state += 1
        return order

    def least_text(self, state):
        text = []
        while self.origins[state] is not None:
            text.append(self.origins[state][1])
            state = self.origins[state][0]
        text.reverse()
        return text

    def bytes_gone(self):
        """With how many bytes all the states go together."""
        return sum([sum([last - first + 1 for first, last, there in ranges]) for ranges in self.ranges])

    def goes(self, state, byte):
        """The state to which the state goes with the byte, or None."""
        for first, last, there in self.ranges[state]:
            if first <= byte and byte <= last:
                return there
        return None

    def has_text(self, text):
        """1 if the format has the text, else 0."""
        state = 0
        for byte in text:
            state = self.goes(state, byte)
            if state is None:
                return 0
        return self.ends[state]

    def longest_piece(self, text, start):
        """How long the longest text of the format is that stands in text from start on; 0 if there's none of a byte
        or more."""
        longest = 0
        state = 0
        for place in range(start, len(text)):
            state = self.goes(state, text[place])
            if state is None:
                break
            if self.ends[state]:
                longest = place + 1 - start
        return longest

    def has_same_texts(self, other):
        # There is one least machine for the same texts, and one way to number its states and to tell its ranges.
        return self.ends == other.ends and self.ranges == other.ranges

    def free_ranges(self):
        """The bytes a format may have that no text of this one has, in ranges with the state 0."""
        used = {}
        # From every state a text of the format can be reached, so each byte of a range stands in some text.
        for ranges in self.ranges:
            for first, last, there in ranges:
                for byte in range(first, last + 1):
                    used[byte] = True
        unused = []
        for byte in range(FIRST_BYTE, LAST_BYTE + 1):
            if byte not in used:
                add_range(unused, byte, byte, 0)
        return unused


def join_ranges(spans, moves, renumbered):
    """The ranges (first byte, last byte, state) of a state with these moves."""
    ranges = []
    for span, there in moves:
        add_range(ranges, spans[span][0], spans[span][1], renumbered[there])
    return ranges


def add_range(ranges, first, last, state):
    """Puts the bytes behind the ranges, into the last one of them if they go on with it."""
    if ranges and ranges[-1][1] + 1 == first and ranges[-1][2] == state:
        first = ranges.pop()[0]
    ranges.append((first, last, state))
