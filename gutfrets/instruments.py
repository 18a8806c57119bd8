"""The calls: each takes an instrument's text as a list of bytes and answers a list of whole numbers."""

from gutfrets.instrument import count_strings, fret_interval, has_fret, has_place, place_sound
from gutfrets.instrument_text import read_instrument
from gutfrets.lying import fret_lies
from gutfrets.reading import TextFault
from gutfrets.refusals import NoInstrument, NoPlace, Refusal, TextTooLong

MOST_BYTES = 4096


def judge(t):
    """How many courses and basses; the refusal of no instrument's text has the place of the fault behind it."""
    if len(t) > MOST_BYTES:
        return [-2]
    try:
        instrument = read_instrument(t)
    except TextFault as fault:
        return [-6, fault.place]
    return [count_strings(instrument)]


def sizes(t):
    """The length, how many frets, courses and basses."""
    try:
        instrument = instrument_of(t)
    except Refusal as refusal:
        return [refusal.number]
    return [instrument.length, len(instrument.frets), len(instrument.courses), len(instrument.basses)]


def lies(f, t):
    """Where fret f lies, 0 at 0."""
    try:
        instrument = instrument_of(t)
        check_fret(instrument, f)
    except Refusal as refusal:
        return [refusal.number]
    return [fret_lies(instrument.length, fret_interval(instrument, f))]


def sound(c, f, t):
    """1 and the five numbers of what place c, f sounds."""
    try:
        instrument = instrument_of(t)
        check_place(instrument, c, f)
    except Refusal as refusal:
        return [refusal.number]
    return [1] + place_sound(instrument, c, f)


def instrument_of(t):
    """The instrument whose text t is."""
    if len(t) > MOST_BYTES:
        raise TextTooLong()
    try:
        return read_instrument(t)
    except TextFault:
        raise NoInstrument() from None


def check_fret(instrument, f):
    """Refuses where there is no fret f."""
    if not has_fret(instrument, f):
        raise NoPlace()


def check_place(instrument, c, f):
    """Refuses where there is no place c, f."""
    if not has_place(instrument, c, f):
        raise NoPlace()
