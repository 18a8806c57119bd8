"""What the readers of texts share: where a text is at fault, and going through its bytes."""

LINE_END = 0x0A
ZERO = 0x30
ONE = 0x31
NINE = 0x39
# Above each byte, so that the end is at fault wherever a byte must stand.
NO_BYTE = 0x100


class TextFault(Exception):
    """A text is at fault at this place."""

    def __init__(self, place):
        self.place = place


class Reader:
    """Goes through the bytes of t, which it only reads."""

    def __init__(self, t):
        self.t = t
        self.place = 0

    def peek(self):
        """The byte at this place, NO_BYTE behind the last one."""
        if self.place < len(self.t):
            return self.t[self.place]
        return NO_BYTE

    def step(self):
        """Goes on by one byte."""
        self.place = self.place + 1


def is_digit(byte):
    """Whether byte is a decimal digit."""
    return ZERO <= byte and byte <= NINE


def expect(reader, word):
    """Goes over the signs of word, which must stand here."""
    for sign in word:
        if reader.peek() != ord(sign):
            raise TextFault(reader.place)
        reader.step()


def read_number(reader, lowest, most_digits):
    """Reads a number without needless zeros; lowest (ZERO or ONE) is the lowest digit it may begin with."""
    start = reader.place
    if not is_digit(reader.peek()) or reader.peek() < lowest:
        raise TextFault(start)
    number = reader.peek() - ZERO
    reader.step()
    while is_digit(reader.peek()):
        if number == 0 or reader.place == start + most_digits:
            raise TextFault(reader.place)
        number = number * 10 + reader.peek() - ZERO
        reader.step()
    return number
