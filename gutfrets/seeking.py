"""Seeks places by what they sound."""

from gutfrets.instrument import all_places, sounds_of
from gutfrets.interval import is_octaves, is_wider, less, unison, upon


def places_sounding(instrument, x, in_any_octave):
    """The places that sound x, or also those that sound it some octaves higher or lower, in order."""
    places = all_places(instrument)
    sounds = sounds_of(instrument, places)
    found = []
    for k in range(len(places)):
        if sounds[k] == x or in_any_octave and is_octaves(less(sounds[k], x)):
            found.append(places[k])
    return found


def nearest_place(instrument, x):
    """The place that sounds nearest to x, of as near ones the first."""
    places = all_places(instrument)
    return places[nearest_position(sounds_of(instrument, places), x)]


def nearest_position(sounds, x):
    """Where among the sounds the one nearest to x stands, of as near ones the first."""
    above = [k for k in range(len(sounds)) if is_wider(sounds[k], x)]
    below = [k for k in range(len(sounds)) if not is_wider(sounds[k], x)]
    if len(below) == 0:
        return narrowest(sounds, above)
    if len(above) == 0:
        return widest(sounds, below)
    return nearer(sounds, widest(sounds, below), narrowest(sounds, above), x)


def widest(sounds, positions):
    """The first of the positions where the widest sound stands."""
    best = positions[0]
    for k in positions:
        if is_wider(sounds[k], sounds[best]):
            best = k
    return best


def narrowest(sounds, positions):
    """The first of the positions where the narrowest sound stands."""
    best = positions[0]
    for k in positions:
        if is_wider(sounds[best], sounds[k]):
            best = k
    return best


def nearer(sounds, below, above, x):
    """Which of two positions has the sound nearer to x, the one's not wider than x, the other's wider.

    The one above is the nearer just if x twice is wider than both together. Asked of these two alone, as it
    takes far greater numbers than the order of two sounds does.
    """
    twice = upon(x, x)
    both = upon(sounds[below], sounds[above])
    if twice == both:
        return min(below, above)
    return above if is_wider(twice, both) else below


def count_pairs(instrument, x):
    """How many pairs of places of different courses are x apart, of the unison each two once."""
    places = all_places(instrument)
    sounds = sounds_of(instrument, places)
    pairs = 0
    for k in range(len(places)):
        wanted = upon(x, sounds[k])
        for j in range(len(places)):
            if sounds[j] == wanted and places[j][0] != places[k][0]:
                pairs = pairs + 1
    # Of the unison each two has been met from either side.
    return pairs // 2 if x == unison() else pairs
