"""Why a call is refused: an error class for each refusal, under one that holds the number answered."""


class Refusal(Exception):
    """A call is refused, and answers this number alone."""

    def __init__(self, number):
        self.number = number


class TextTooLong(Refusal):
    """The text has more bytes than are read."""

    def __init__(self):
        Refusal.__init__(self, -2)


class NoInstrument(Refusal):
    """The text handed in is no instrument's; it is at fault at this place."""

    def __init__(self, place):
        Refusal.__init__(self, -6)
        self.place = place


class OutOfBounds(Refusal):
    """A number is out of its bounds, or a list is no interval."""

    def __init__(self):
        Refusal.__init__(self, -1)


class NoPlace(Refusal):
    """There is no such place or no such fret."""

    def __init__(self):
        Refusal.__init__(self, -4)


class NoneComes(Refusal):
    """What would come is no instrument."""

    def __init__(self):
        Refusal.__init__(self, -3)
