"""The calls: each takes an instrument's text as a list of bytes and answers a list of whole numbers."""

from gutfrets.instrument_text import count_strings, read_instrument
from gutfrets.reading import TextFault

MOST_BYTES = 4096


def judge(t):
    """How many courses and basses; -2 of a text too long, -6 and the place of the fault of no instrument's text."""
    if len(t) > MOST_BYTES:
        return [-2]
    try:
        instrument = read_instrument(t)
    except TextFault as fault:
        return [-6, fault.place]
    return [count_strings(instrument)]


def sizes(t):
    """The length, how many frets, courses and basses; -2 and -6 as of judge, but alone."""
    if len(t) > MOST_BYTES:
        return [-2]
    try:
        instrument = read_instrument(t)
    except TextFault:
        return [-6]
    return [instrument.length, len(instrument.frets), len(instrument.courses), len(instrument.basses)]
