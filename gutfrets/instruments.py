"""The calls: each takes an instrument's text as a list of bytes and answers a list of whole numbers."""

from gutfrets.checks import IN_ANY_OCTAVE, check_different, check_fret, check_interval, check_octaves
from gutfrets.checks import check_octaves_asked, check_place, check_tied_fret, instrument_of, text_of
from gutfrets.instrument import count_strings, fret_interval, place_sound
from gutfrets.interval import is_wider
from gutfrets.lying import fret_lies
from gutfrets.refusals import NoInstrument, Refusal
from gutfrets.seeking import count_pairs, nearest_place, places_sounding
from gutfrets.tuning import raise_strings, tie_fret, tune_string


def judge(t):
    """How many courses and basses; the refusal of no instrument's text has the place of the fault behind it."""
    try:
        instrument = instrument_of(t)
    except NoInstrument as refusal:
        return [refusal.number, refusal.place]
    except Refusal as refusal:
        return [refusal.number]
    return [count_strings(instrument)]


def sizes(t):
    """The length, how many frets, courses and basses."""
    try:
        instrument = instrument_of(t)
    except Refusal as refusal:
        return [refusal.number]
    return [instrument.length, len(instrument.frets), len(instrument.courses), len(instrument.basses)]


def lies(f, t):
    """Where fret f lies, 0 at 0."""
    try:
        instrument = instrument_of(t)
        check_fret(instrument, f)
    except Refusal as refusal:
        return [refusal.number]
    return [fret_lies(instrument.length, fret_interval(instrument, f))]


def sound(c, f, t):
    """1 and the five numbers of what place c, f sounds."""
    try:
        instrument = instrument_of(t)
        check_place(instrument, c, f)
    except Refusal as refusal:
        return [refusal.number]
    return [1] + place_sound(instrument, c, f)


def order(c, f, d, g, t):
    """0 if place c, f sounds narrower than d, g, 1 if the same, 2 if wider."""
    try:
        instrument = instrument_of(t)
        check_place(instrument, c, f)
        check_place(instrument, d, g)
    except Refusal as refusal:
        return [refusal.number]
    first = place_sound(instrument, c, f)
    second = place_sound(instrument, d, g)
    if first == second:
        return [1]
    return [2] if is_wider(first, second) else [0]


def find(octaves, t, x):
    """How many places sound x (octaves 1: or some octaves more or less), then the course and the fret of each."""
    try:
        instrument = instrument_of(t)
        check_octaves_asked(octaves)
        check_interval(x)
    except Refusal as refusal:
        return [refusal.number]
    places = places_sounding(instrument, x, octaves == IN_ANY_OCTAVE)
    answer = [len(places)]
    for place in places:
        answer.extend(place)
    return answer


def near(t, x):
    """The course and the fret of the place that sounds nearest to x, of as near ones the first."""
    try:
        instrument = instrument_of(t)
        check_interval(x)
    except Refusal as refusal:
        return [refusal.number]
    return list(nearest_place(instrument, x))


def pairs(t, x):
    """How many pairs of places of different courses there are, the second x upon the first (of the unison once)."""
    try:
        instrument = instrument_of(t)
        check_interval(x)
    except Refusal as refusal:
        return [refusal.number]
    return [count_pairs(instrument, x)]


def tune(c, f, d, g, o, t):
    """The text of the instrument in which fret f of course or bass c sounds o octaves above place d, g."""
    try:
        instrument = instrument_of(t)
        check_octaves(o)
        check_place(instrument, c, f)
        check_place(instrument, d, g)
        check_different(c, d)
        return text_of(tune_string(instrument, c, f, d, g, o))
    except Refusal as refusal:
        return [refusal.number]


def tie(f, t, x):
    """The text of the instrument in which fret f's interval is x."""
    try:
        instrument = instrument_of(t)
        check_interval(x)
        check_tied_fret(instrument, f)
        return text_of(tie_fret(instrument, f, x))
    except Refusal as refusal:
        return [refusal.number]


def raise_by(t, x):
    """The text of the instrument in which all open strings, the basses' too, are raised by x."""
    try:
        instrument = instrument_of(t)
        check_interval(x)
        return text_of(raise_strings(instrument, x))
    except Refusal as refusal:
        return [refusal.number]
