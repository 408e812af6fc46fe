"""Lists of whole numbers, read from their beginning on."""


class NotWhole(ValueError):
    """The list isn't whole what it is read as."""


class Reader:
    """A list and how far it is read. The list itself stays as it is."""

    def __init__(self, numbers):
        self.numbers = numbers
        self.place = 0

    def finished(self):
        return self.place == len(self.numbers)

    def number(self, least, most):
        """The next number, which has to be from least to most."""
        if self.finished():
            raise NotWhole("the list is cut short")
        number = self.numbers[self.place]
        if number < least or number > most:
            raise NotWhole("a number is out of its limits")
        self.place += 1
        return number

    def counted(self, most, lowest, highest):
        """The next numbers, their count (at most most) ahead of them, each from lowest to highest."""
        count = self.number(0, most)
        return [self.number(lowest, highest) for step in range(count)]

    def finish(self):
        if not self.finished():
            raise NotWhole("numbers are left behind the end")


def read_text(numbers, most):
    """The bytes of a text that is handed over: at most most of them, each one that a byte can be."""
    reader = Reader(numbers)
    text = reader.counted(most, 0, 255)
    reader.finish()
    return text
