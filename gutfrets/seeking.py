"""Seeks places by what they sound."""

from gutfrets.instrument import all_places, sounds_of
from gutfrets.interval import is_octaves, less


def places_sounding(instrument, x, in_any_octave):
    """The places that sound x, or also those that sound it some octaves higher or lower, in order."""
    places = all_places(instrument)
    sounds = sounds_of(instrument, places)
    found = []
    for k in range(len(places)):
        if sounds[k] == x or in_any_octave and is_octaves(less(sounds[k], x)):
            found.append(places[k])
    return found
