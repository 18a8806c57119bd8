"""Reads an instrument from its text, and writes its text."""

from gutfrets.instrument import Instrument, count_strings, sounds_with_each
from gutfrets.interval import is_wider, unison
from gutfrets.interval_text import read_interval, write_interval
from gutfrets.reading import NO_BYTE, ONE, Reader, TextFault, expect, read_number

LEAST_LENGTH = 10000
MOST_LENGTH = 200000
MOST_LENGTH_DIGITS = 7
MOST_FRETS = 15
MOST_STRINGS = 14


def read_instrument(t):
    """The instrument whose text t is; raises TextFault where t is none's."""
    reader = Reader(t)
    instrument = Instrument(read_length(reader))
    while reader.peek() != NO_BYTE or len(instrument.courses) == 0:
        read_line(reader, instrument)
    return instrument


def read_length(reader):
    """Reads the first line; answers the length."""
    expect(reader, "length ")
    start = reader.place
    length = read_number(reader, ONE, MOST_LENGTH_DIGITS)
    if length < LEAST_LENGTH or length > MOST_LENGTH:
        raise TextFault(start)
    expect(reader, "\n")
    return length


def read_line(reader, instrument):
    """Reads one line behind the first into the instrument."""
    first = reader.peek()
    if first == ord("f") and len(instrument.courses) == 0:
        read_fret(reader, instrument)
    elif first == ord("c") and len(instrument.basses) == 0:
        read_course(reader, instrument)
    elif first == ord("b") and len(instrument.courses) > 0:
        read_bass(reader, instrument)
    else:
        raise TextFault(reader.place)


def read_word(reader, word, is_one_too_many):
    """Reads a line's first word and the blank behind it."""
    start = reader.place
    expect(reader, word)
    # Ahead of the blank, as this is looked at behind the word.
    if is_one_too_many:
        raise TextFault(start)
    expect(reader, " ")


def read_fret(reader, instrument):
    """Reads a fret's line."""
    read_word(reader, "fret", len(instrument.frets) == MOST_FRETS)
    start = reader.place
    x = read_interval(reader)
    before = instrument.frets[-1] if len(instrument.frets) > 0 else unison()
    if not is_wider(x, before):
        raise TextFault(start)
    expect(reader, "\n")
    instrument.frets.append(x)


def read_course(reader, instrument):
    """Reads a course's line."""
    read_word(reader, "course", count_strings(instrument) == MOST_STRINGS)
    start = reader.place
    x = read_interval(reader)
    if not sounds_with_each(x, instrument.frets):
        raise TextFault(start)
    expect(reader, "\n")
    instrument.courses.append(x)


def read_bass(reader, instrument):
    """Reads a bass's line."""
    read_word(reader, "bass", count_strings(instrument) == MOST_STRINGS)
    x = read_interval(reader)
    expect(reader, "\n")
    instrument.basses.append(x)


def write_instrument(instrument):
    """The bytes of the instrument's text."""
    length = instrument.length
    text = f"length {length}\n"
    text = text + write_lines("fret", instrument.frets)
    text = text + write_lines("course", instrument.courses)
    text = text + write_lines("bass", instrument.basses)
    return [ord(sign) for sign in text]


def write_lines(word, intervals):
    """A line with this word for each of the intervals."""
    text = ""
    for x in intervals:
        told = write_interval(x)
        text = text + f"{word} {told}\n"
    return text
