"""Tunes, ties and raises: each answers another instrument, which may break what must hold of one."""

from gutfrets.instrument import Instrument, fret_interval, place_sound
from gutfrets.interval import less, upon


def copied(instrument):
    """The same instrument anew."""
    other = Instrument(instrument.length)
    other.frets.extend(instrument.frets)
    other.courses.extend(instrument.courses)
    other.basses.extend(instrument.basses)
    return other


def tune_string(instrument, c, f, d, g, o):
    """The instrument in which fret f of course or bass c sounds o octaves above place d, g."""
    wanted = upon([o, 0, 0, 0, 1], place_sound(instrument, d, g))
    tuned = less(wanted, fret_interval(instrument, f))
    other = copied(instrument)
    if c <= len(other.courses):
        other.courses[c - 1] = tuned
    else:
        other.basses[c - 1 - len(other.courses)] = tuned
    return other


def tie_fret(instrument, f, x):
    """The instrument in which fret f's interval is x."""
    other = copied(instrument)
    other.frets[f - 1] = x
    return other


def raise_strings(instrument, x):
    """The instrument in which all open strings are raised by x."""
    other = Instrument(instrument.length)
    other.frets.extend(instrument.frets)
    other.courses.extend([upon(x, course) for course in instrument.courses])
    other.basses.extend([upon(x, bass) for bass in instrument.basses])
    return other
