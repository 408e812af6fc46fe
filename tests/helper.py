"""What the tests share: formats told by numbers, lines of calls, and machines worked out in other ways."""

import random

from formatmachines.streams import answers

LETTERS = range(97, 123)
DIGITS = range(48, 58)


def told_text(text):
    return [len(text)] + [ord(sign) for sign in text]


def told_row(*pieces):
    return sum(pieces, [len(pieces)])


def literal(text):
    return [0] + told_text(text)


def number(lo, hi):
    return [1, lo, hi]


def word(lo, hi):
    return [2, lo, hi]


def alternatives(first, second):
    return [3] + first + second


def optional(*pieces):
    return [4] + told_row(*pieces)


def repeat(separator, lo, hi, *pieces):
    return [5] + told_text(separator) + [lo, hi] + told_row(*pieces)


def call_format(made):
    return [0, len(made)] + made


def call_state(state):
    return [1, state]


def call_feed(told):
    return [2, len(told)] + told


def call_reset():
    return [3]


def call_at():
    return [4]


def call_wished():
    return [5]


def call_accepts(told):
    return [6, len(told)] + told


def call_equal(made):
    return [7, len(made)] + made


def call_cut(told):
    return [8, len(told)] + told


def call_free():
    return [9]


def feed_text(text):
    return call_feed(told_text(text))


def accepts_text(text):
    return call_accepts(told_text(text))


def cut_text(text):
    return call_cut(told_text(text))


def ask(*calls):
    """The answers to the calls, a list for each."""
    given = answers(sum(calls, []))
    split = []
    place = 0
    while place < len(given):
        count = given[place]
        split.append(given[place + 1:place + 1 + count])
        place += 1 + count
    return split


def ask_machine(made):
    """What format answers, and what state answers for each state, asked in lines of at most 30 calls."""
    size = ask(call_format(made))[0]
    states = []
    for first in range(0, size[0], 29):
        asked = [call_state(state) for state in range(first, min(first + 29, size[0]))]
        states += ask(call_format(made), *asked)[1:]
    return size, states


def read_row(made, place=0):
    """The row told in made from place on, as a tuple of pieces, and the place behind it."""
    pieces = []
    count = made[place]
    place += 1
    for _ in range(count):
        piece, place = read_piece(made, place)
        pieces.append(piece)
    return tuple(pieces), place


def read_piece(made, place):
    kind = made[place]
    place += 1
    if kind in (0, 5):
        text = tuple(made[place + 1:place + 1 + made[place]])
        place += 1 + len(text)
        if kind == 0:
            return ("literal", text), place
        lo, hi = made[place:place + 2]
        row, place = read_row(made, place + 2)
        return ("repeat", text, lo, hi, row), place
    if kind in (1, 2):
        return (("number", "word")[kind - 1], made[place], made[place + 1]), place + 2
    row, place = read_row(made, place)
    if kind == 4:
        return ("optional", row), place
    other, place = read_row(made, place)
    return ("alternatives", row, other), place


def texts_of_row(row):
    """All texts of a row, as the words tell a value's print."""
    texts = {()}
    for piece in row:
        behind = texts_of_piece(piece)
        texts = {text + other for text in texts for other in behind}
    return texts


def texts_of_piece(piece):
    kind = piece[0]
    if kind == "literal":
        return {piece[1]}
    if kind == "number":
        return {tuple(map(ord, print_number(value, piece[1], piece[2])))
                for value in range(10 ** piece[2])} - {()}
    if kind == "word":
        texts = set()
        for length in range(piece[1], piece[2] + 1):
            longer = {()}
            for _ in range(length):
                longer = {text + (letter,) for text in longer for letter in LETTERS}
            texts |= longer
        return texts
    if kind == "alternatives":
        return texts_of_row(piece[1]) | texts_of_row(piece[2])
    if kind == "optional":
        return {()} | texts_of_row(piece[1])
    return texts_of_repeat(piece)


def print_number(value, lo, hi):
    """The print of a number's value, or nothing if it has none."""
    if lo == hi:
        return str(value).zfill(hi)
    return str(value) if lo <= len(str(value)) <= hi else ""


def texts_of_repeat(piece):
    once = texts_of_row(piece[4]) if piece[3] else set()
    texts = {()} if piece[2] == 0 else set()
    longer = {()}
    for time in range(1, piece[3] + 1):
        separator = piece[1] if time > 1 else ()
        longer = {text + separator + other for text in longer for other in once}
        if time >= piece[2]:
            texts |= longer
    return texts


def ends_in(row, text, place):
    """The places in text at which a text of the row ends that begins at place."""
    ends = {place}
    for piece in row:
        ends = {there for here in ends for there in ends_of_piece(piece, text, here)}
    return ends


def ends_of_piece(piece, text, place):
    kind = piece[0]
    if kind == "literal":
        behind = place + len(piece[1])
        return {behind} if text[place:behind] == piece[1] else set()
    if kind in ("number", "word"):
        return {place + count for count in range(piece[1], piece[2] + 1)
                if is_print_of(piece, text[place:place + count], count)}
    if kind == "alternatives":
        return ends_in(piece[1], text, place) | ends_in(piece[2], text, place)
    if kind == "optional":
        return {place} | ends_in(piece[1], text, place)
    separator = (("literal", piece[1]),)
    ends = set()
    for times in range(piece[2], piece[3] + 1):
        ends |= ends_in((piece[4] + separator) * (times - 1) + piece[4] if times else (), text, place)
    return ends


def is_print_of(piece, text, count):
    """Whether the text is one of a number or a word of so many signs."""
    if piece[0] == "word":
        return len(text) == count and all(byte in LETTERS for byte in text)
    if len(text) != count or any(byte not in DIGITS for byte in text):
        return False
    return piece[1] == piece[2] or count == 1 or text[0] != 48


def cut_of_row(row, text):
    """What cut has to answer, worked out with no machine."""
    lengths = []
    place = 0
    while True:
        behind = max(ends_in(row, text, place), default=place)
        if behind == place:
            return [len(lengths)] + lengths + [place]
        lengths.append(behind - place)
        place = behind


def bytes_of_row(row):
    """All bytes that stand in texts of the row. Each of its pieces has some text, so none rules another one out."""
    found = set()
    for piece in row:
        kind = piece[0]
        if kind == "literal":
            found |= set(piece[1])
        elif kind in ("number", "word"):
            found |= set(DIGITS if kind == "number" else LETTERS)
        elif kind == "alternatives":
            found |= bytes_of_row(piece[1]) | bytes_of_row(piece[2])
        elif kind == "optional":
            found |= bytes_of_row(piece[1])
        else:
            found |= bytes_of_row(piece[4]) if piece[3] > 0 else set()
            found |= set(piece[1]) if piece[3] > 1 else set()
    return found


def free_of_row(row):
    """What free has to answer, worked out with no machine."""
    found = bytes_of_row(row)
    firsts = [byte for byte in range(32, 127) if byte not in found and (byte == 32 or byte - 1 in found)]
    lasts = [byte for byte in range(32, 127) if byte not in found and (byte == 126 or byte + 1 in found)]
    return [len(firsts)] + sum([[first, last, 0] for first, last in zip(firsts, lasts)], [])


def machine_of_texts(texts):
    """What format and state have to answer for the format that has just these texts: every state's texts are
    gathered by all that may stand behind them."""
    behind = {}
    for text in texts:
        for cut in range(len(text) + 1):
            behind.setdefault(text[:cut], set()).add(text[cut:])
    stand = {text: frozenset(rest) for text, rest in behind.items()}
    ordered = sorted(stand, key=lambda text: (len(text), text))
    numbers = {}
    least = []
    for text in ordered:
        if stand[text] not in numbers:
            numbers[stand[text]] = len(least)
            least.append(text)
    goes = []
    for text in least:
        goes.append({byte: numbers[stand[text + (byte,)]] for byte in range(256) if text + (byte,) in stand})
    ends = [1 if () in stand[text] else 0 for text in least]
    return answers_of_machine(ends, least, goes)


def answers_of_machine(ends, least, goes):
    states = []
    for end, text, going in zip(ends, least, goes):
        ranges = []
        for byte in sorted(going):
            if ranges and ranges[-1][1] + 1 == byte and ranges[-1][2] == going[byte]:
                ranges[-1][1] = byte
            else:
                ranges.append([byte, byte, going[byte]])
        states.append([end, len(text)] + list(text) + [len(ranges)] + sum(ranges, []))
    return [len(least), sum(len(going) for going in goes)], states


def ways_with(row, byte):
    """What the row's ways leave of it behind the byte, in the order of the scannings, like ways once."""
    if not row:
        return []
    ways = []
    for opened in open_first(row):
        if not opened:
            continue
        first, rest = opened[0], opened[1:]
        if first[0] == "literal":
            if first[1][0] == byte:
                left = (("literal", first[1][1:]),) if len(first[1]) > 1 else ()
                ways.append(left + rest)
        elif byte in first[1]:
            left = (("bytes",) + first[2:],) if len(first) > 2 else ()
            ways.append(left + rest)
    return list(dict.fromkeys(ways))


def open_first(row):
    """The row in all ways in which its beginning is a byte to be read, or nothing is left, in order.

    A number or a word becomes ("bytes", choices, ...), a choice for each of its bytes, longest first.
    """
    if not row or row[0][0] in ("literal", "bytes"):
        return [row]
    rest = row[1:]
    opened = []
    for ahead in rows_instead(row[0]):
        opened += open_first(ahead + rest)
    return opened


def rows_instead(piece):
    kind = piece[0]
    if kind == "number":
        digits = range(49, 58) if piece[1] < piece[2] else DIGITS
        rows = [(("bytes", digits) + (DIGITS,) * (count - 1),) for count in range(piece[2], piece[1] - 1, -1)]
        return rows + [(("literal", (48,)),)] if piece[1] == 1 and piece[2] > 1 else rows
    if kind == "word":
        return [(("bytes",) + (LETTERS,) * count,) for count in range(piece[2], piece[1] - 1, -1)]
    if kind == "alternatives":
        return [piece[1], piece[2]]
    if kind == "optional":
        return [piece[1], ()]
    rows = []
    separator = (("literal", piece[1]),) if piece[1] else ()
    for times in range(piece[3], piece[2] - 1, -1):
        rows.append((piece[4] + separator) * (times - 1) + piece[4] if times else ())
    return rows


def row_may_end(row):
    return any(not opened for opened in open_first(row))


def machine_of_ways(made, most=2000):
    """How many states there are where ways in order are told apart, and what format and state have to answer;
    None if those states are more than most."""
    row = read_row(made)[0]
    numbers = {(row,): 0}
    ways = [(row,)]
    goes = []
    for here in ways:
        if len(ways) > most:
            return None
        going = {}
        for byte in range(32, 127):
            there = tuple(dict.fromkeys(left for one in here for left in ways_with(one, byte)))
            if there:
                if there not in numbers:
                    numbers[there] = len(ways)
                    ways.append(there)
                going[byte] = numbers[there]
        goes.append(going)
    ends = [1 if any(row_may_end(one) for one in here) else 0 for here in ways]
    return len(ways), answers_of_machine(*least_machine(ends, goes))


def least_machine(ends, goes):
    """The states that can't be told apart made one, by splitting classes of states until none splits further."""
    classes = list(ends)
    while True:
        kinds = {}
        split = []
        for state, going in enumerate(goes):
            kind = (classes[state], tuple((byte, classes[there]) for byte, there in sorted(going.items())))
            split.append(kinds.setdefault(kind, len(kinds)))
        if len(kinds) == len(set(classes)):
            return order_by_least_texts(ends, goes, split)
        classes = split


def order_by_least_texts(ends, goes, classes):
    found = {classes[0]: 0}
    samples = [0]
    least = [()]
    layer = [((), 0)]
    while layer:
        longer = sorted((text + (byte,), there) for text, state in layer for byte, there in goes[state].items())
        layer = []
        for text, state in longer:
            if classes[state] not in found:
                found[classes[state]] = len(samples)
                samples.append(state)
                least.append(text)
                layer.append((text, state))
    renumbered = [{byte: found[classes[there]] for byte, there in goes[state].items()} for state in samples]
    return [ends[state] for state in samples], least, renumbered


class Made:
    """Formats made up one after another, from a beginning that is always the same."""

    def __init__(self, seed):
        self.chosen = random.Random(seed)

    def text(self, least, signs):
        return "".join(self.chosen.choice(signs) for _ in range(self.chosen.randint(least, 2)))

    def row(self, depth, repeated, signs):
        pieces = [self.piece(depth, repeated, signs) for _ in range(self.chosen.randint(0, 3))]
        return told_row(*pieces)

    def piece(self, depth, repeated, signs):
        kind = self.chosen.choice((0, 0, 1, 2) if depth == 0 else (0, 1, 2, 3, 4) if repeated else (0, 1, 2, 3, 4, 5))
        lo = self.chosen.randint(1, 2)
        if kind == 0:
            return literal(self.text(1, signs))
        if kind == 1:
            return number(lo, self.chosen.randint(lo, 2))
        if kind == 2:
            return word(1, 1)
        if kind == 3:
            return alternatives(self.row(depth - 1, repeated, signs), self.row(depth - 1, repeated, signs))
        if kind == 4:
            return optional(*[self.piece(depth - 1, repeated, signs) for _ in range(lo)])
        hi = self.chosen.randint(lo, 3)
        return repeat(self.text(0, signs), lo - 1, hi, self.piece(depth - 1, True, signs))
