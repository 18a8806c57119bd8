"""What an instrument is: a length, and intervals for its frets, courses and basses."""

from gutfrets.interval import is_interval, is_wider, unison, upon


class Instrument:
    """A length, and the intervals of frets, courses and basses in their order."""

    def __init__(self, length):
        self.length = length
        self.frets = []
        self.courses = []
        self.basses = []


def count_strings(instrument):
    """How many courses and basses there are."""
    return len(instrument.courses) + len(instrument.basses)


def is_instrument(instrument):
    """Whether the frets rise from the unison, and all open strings and each course with each fret sound intervals."""
    before = unison()
    for fret in instrument.frets:
        if not is_interval(fret) or not is_wider(fret, before):
            return False
        before = fret
    for course in instrument.courses:
        if not is_interval(course) or not sounds_with_each(course, instrument.frets):
            return False
    for bass in instrument.basses:
        if not is_interval(bass):
            return False
    return True


def sounds_with_each(x, frets):
    """Whether a course tuned to x sounds an interval with each of the frets."""
    for fret in frets:
        if not is_interval(upon(fret, x)):
            return False
    return True


def has_fret(instrument, f):
    """Whether there is a fret f, or f is 0, the open string."""
    return 0 <= f and f <= len(instrument.frets)


def has_place(instrument, c, f):
    """Whether there is a place c, f; a bass lies beside the neck, so its only fret is 0."""
    if c < 1 or c > count_strings(instrument):
        return False
    if c > len(instrument.courses):
        return f == 0
    return has_fret(instrument, f)


def fret_interval(instrument, f):
    """How far fret f raises a course."""
    if f == 0:
        return unison()
    return instrument.frets[f - 1]


def open_string(instrument, c):
    """The open string of course or bass c."""
    if c <= len(instrument.courses):
        return instrument.courses[c - 1]
    return instrument.basses[c - 1 - len(instrument.courses)]


def place_sound(instrument, c, f):
    """What place c, f sounds."""
    return upon(fret_interval(instrument, f), open_string(instrument, c))


def all_places(instrument):
    """All places as tuples of course and fret, by course, then fret."""
    places = []
    for c in range(1, count_strings(instrument) + 1):
        places.append((c, 0))
        if c <= len(instrument.courses):
            places.extend([(c, f) for f in range(1, len(instrument.frets) + 1)])
    return places


def sounds_of(instrument, places):
    """What each of the places sounds."""
    return [place_sound(instrument, place[0], place[1]) for place in places]
