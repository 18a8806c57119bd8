"""The calls: each takes an instrument's text as a list of bytes and answers a list of whole numbers."""

from gutfrets.instrument import count_strings, fret_interval, has_fret, has_place, place_sound
from gutfrets.instrument_text import read_instrument
from gutfrets.interval import is_interval, is_wider
from gutfrets.lying import fret_lies
from gutfrets.reading import TextFault
from gutfrets.refusals import NoInstrument, NoPlace, OutOfBounds, Refusal, TextTooLong
from gutfrets.seeking import count_pairs, nearest_place, places_sounding

MOST_BYTES = 4096
MOST_OCTAVES = 1


def judge(t):
    """How many courses and basses; the refusal of no instrument's text has the place of the fault behind it."""
    if len(t) > MOST_BYTES:
        return [-2]
    try:
        instrument = read_instrument(t)
    except TextFault as fault:
        return [-6, fault.place]
    return [count_strings(instrument)]


def sizes(t):
    """The length, how many frets, courses and basses."""
    try:
        instrument = instrument_of(t)
    except Refusal as refusal:
        return [refusal.number]
    return [instrument.length, len(instrument.frets), len(instrument.courses), len(instrument.basses)]


def lies(f, t):
    """Where fret f lies, 0 at 0."""
    try:
        instrument = instrument_of(t)
        check_fret(instrument, f)
    except Refusal as refusal:
        return [refusal.number]
    return [fret_lies(instrument.length, fret_interval(instrument, f))]


def sound(c, f, t):
    """1 and the five numbers of what place c, f sounds."""
    try:
        instrument = instrument_of(t)
        check_place(instrument, c, f)
    except Refusal as refusal:
        return [refusal.number]
    return [1] + place_sound(instrument, c, f)


def order(c, f, d, g, t):
    """0 if place c, f sounds narrower than d, g, 1 if the same, 2 if wider."""
    try:
        instrument = instrument_of(t)
        check_place(instrument, c, f)
        check_place(instrument, d, g)
    except Refusal as refusal:
        return [refusal.number]
    first = place_sound(instrument, c, f)
    second = place_sound(instrument, d, g)
    if first == second:
        return [1]
    return [2] if is_wider(first, second) else [0]


def find(octaves, t, x):
    """How many places sound x (octaves 1: or some octaves more or less), then the course and the fret of each."""
    try:
        instrument = instrument_of(t)
        check_octaves(octaves)
        check_interval(x)
    except Refusal as refusal:
        return [refusal.number]
    places = places_sounding(instrument, x, octaves == 1)
    answer = [len(places)]
    for place in places:
        answer.extend(place)
    return answer


def near(t, x):
    """The course and the fret of the place that sounds nearest to x, of as near ones the first."""
    try:
        instrument = instrument_of(t)
        check_interval(x)
    except Refusal as refusal:
        return [refusal.number]
    return list(nearest_place(instrument, x))


def pairs(t, x):
    """How many pairs of places of different courses there are, the second x upon the first (of the unison once)."""
    try:
        instrument = instrument_of(t)
        check_interval(x)
    except Refusal as refusal:
        return [refusal.number]
    return [count_pairs(instrument, x)]


def instrument_of(t):
    """The instrument whose text t is."""
    if len(t) > MOST_BYTES:
        raise TextTooLong()
    try:
        return read_instrument(t)
    except TextFault:
        raise NoInstrument() from None


def check_octaves(octaves):
    """Refuses what neither asks for the same alone (0) nor for other octaves too (1)."""
    if octaves > MOST_OCTAVES:
        raise OutOfBounds()


def check_interval(x):
    """Refuses a list that is no interval."""
    if not is_interval(x):
        raise OutOfBounds()


def check_fret(instrument, f):
    """Refuses where there is no fret f."""
    if not has_fret(instrument, f):
        raise NoPlace()


def check_place(instrument, c, f):
    """Refuses where there is no place c, f."""
    if not has_place(instrument, c, f):
        raise NoPlace()
