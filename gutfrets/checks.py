"""Whether a call is refused: each check raises the refusal."""

from gutfrets.instrument import has_fret, has_place, is_instrument
from gutfrets.instrument_text import read_instrument, write_instrument
from gutfrets.interval import is_interval
from gutfrets.reading import TextFault
from gutfrets.refusals import NoInstrument, NoneComes, NoPlace, OutOfBounds, TextTooLong

MOST_BYTES = 4096
# What octaves is where places are found in any octave; else it is 0.
IN_ANY_OCTAVE = 1
MOST_OCTAVES = 9


def instrument_of(t):
    """The instrument whose text t is."""
    if len(t) > MOST_BYTES:
        raise TextTooLong()
    try:
        return read_instrument(t)
    except TextFault as fault:
        raise NoInstrument(fault.place) from None


def text_of(instrument):
    """How many bytes the instrument's text has, then these; refuses where it is none."""
    if not is_instrument(instrument):
        raise NoneComes()
    text = write_instrument(instrument)
    return [len(text)] + text


def check_octaves_asked(octaves):
    """Refuses what neither asks for the same alone nor for any octave."""
    if octaves > IN_ANY_OCTAVE:
        raise OutOfBounds()


def check_octaves(o):
    """Refuses too many octaves up or down."""
    if abs(o) > MOST_OCTAVES:
        raise OutOfBounds()


def check_interval(x):
    """Refuses a list that is no interval."""
    if not is_interval(x):
        raise OutOfBounds()


def check_fret(instrument, f):
    """Refuses where there is no fret f."""
    if not has_fret(instrument, f):
        raise NoPlace()


def check_tied_fret(instrument, f):
    """Refuses where there is no fret f to tie, as of the open string there is none."""
    if f == 0 or not has_fret(instrument, f):
        raise NoPlace()


def check_place(instrument, c, f):
    """Refuses where there is no place c, f."""
    if not has_place(instrument, c, f):
        raise NoPlace()


def check_different(c, d):
    """Refuses to tune a course by itself."""
    if c == d:
        raise NoPlace()
