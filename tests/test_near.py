"""B3: none is nearer than the place told."""

import random
import time
import unittest

from gutfrets.instruments import find, near
from helper import (
    NO_INTERVALS, as_bytes, inverse, lines, numbers_of, second_near, second_places, some_instrument, some_interval,
    write_instrument,
)

UNISON = [0, 0, 0, 0, 1]
LUTE = as_bytes(lines(
    "length 67550", "fret 2^-3 3^2", "fret 2^-2 5", "fret 2^2 3^-1", "fret 2",
    "course 2^2", "course 3", "course 2^1/2", "bass 2^-1 3", "bass 1",
))
# x, then a narrower and a wider interval of which the first lies nearer to x, by ever less.
BELOW_IS_NEARER = (
    ([1, 0, 0, 0, 1], [0, 0, 0, 0, 1], [21, 0, 0, 0, 10]), ([0, 0, 0, 0, 1], [-99, 0, 0, 0, 17], [35, 0, 0, 0, 6]),
    ([43, -33, -18, -19, 24], [57, 19, -60, -92, 23], [21, -68, 21, 46, 19]),
    ([58, 24, -99, 13, 24], [96, -40, -94, 7, 19], [0, 93, -73, 13, 23]),
    ([0, 0, 0, 0, 1], [95, -6, 23, -59, 23], [-17, -87, -18, 80, 24]),
    ([-25, 21, -78, 28, 24], [-82, -89, -69, 87, 23], [35, 99, -66, -26, 19]),
    ([-25, -38, -89, 84, 24], [18, -3, -10, -96, 19], [80, 48, 31, 1, 23]),
    ([92, -91, -84, 91, 24], [-79, -49, 35, -63, 23], [11, 44, 92, -26, 19]),
    ([37, -74, -72, 79, 23], [-42, 3, -68, 25, 19], [4, -65, 96, -7, 24]),
)


class NearTest(unittest.TestCase):
    def check(self, t, x, place):
        self.assertEqual(near(t, x), list(place), x)

    def check_strings(self, strings, x, c):
        """That of these open strings c is nearest to x, as courses and as basses."""
        self.check(as_bytes(write_instrument(60000, [], strings, [])), x, (c, 0))
        self.check(as_bytes(write_instrument(60000, [], strings[:1], strings[1:])), x, (c, 0))

    def test_a_place_that_sounds_x(self):
        self.check(LUTE, [2, 0, 0, 0, 1], (1, 0))
        self.check(LUTE, [0, 0, 1, 0, 1], (1, 2))
        self.check(LUTE, [0, 1, 0, 0, 1], (2, 0))
        self.check(LUTE, [1, 1, 0, 0, 1], (2, 4))
        self.check(LUTE, [-5, 4, 0, 0, 2], (3, 1))
        self.check(LUTE, [-1, 1, 0, 0, 1], (4, 0))
        self.check(LUTE, UNISON, (5, 0))

    def test_below(self):
        self.check(LUTE, [8, 0, 0, 0, 1], (1, 4))
        self.check(LUTE, [49, 0, 0, 0, 24], (1, 0))
        self.check(LUTE, [1, 0, 0, 0, 24], (5, 0))

    def test_above(self):
        self.check(LUTE, [47, 0, 0, 0, 24], (1, 0))
        self.check(LUTE, [-1, 0, 0, 0, 1], (5, 0))
        self.check(LUTE, [-1, 0, 0, 0, 24], (5, 0))

    def test_on_a_bass(self):
        self.check(LUTE, [7, 0, 0, 0, 12], (4, 0))
        self.check(LUTE, [-99, 0, 0, 0, 1], (5, 0))

    def test_one_place_alone(self):
        t = as_bytes(lines("length 60000", "course 3"))
        for x in (UNISON, [0, 1, 0, 0, 1], [99, 99, 99, 99, 1], [-99, -99, -99, -99, 1], [1, 0, 0, 0, 24]):
            self.check(t, x, (1, 0))

    def test_far_outside(self):
        self.check(LUTE, [99, 99, 99, 99, 1], (1, 4))
        self.check(LUTE, [99, 0, 0, 0, 1], (1, 4))
        self.check(LUTE, [-99, -99, -99, -99, 1], (5, 0))
        self.check(LUTE, [0, 0, -99, 0, 1], (5, 0))

    def test_as_near_below_and_above(self):
        up, down = [1, 0, 0, 0, 1], [-1, 0, 0, 0, 1]
        self.check_strings([down, up], UNISON, 1)
        self.check_strings([up, down], UNISON, 1)
        self.check_strings([[3, 0, 0, 0, 1], up, [-4, 0, 0, 0, 1], down], UNISON, 2)
        self.check_strings([[3, 0, 0, 0, 1], down, [-4, 0, 0, 0, 1], up], UNISON, 2)
        self.check_strings([[2, 0, 0, 0, 1], down, up, UNISON], UNISON, 4)
        self.check_strings([[-5, 0, 0, 0, 1], [2, -1, 0, 0, 1], [0, 1, 0, 0, 1]], [1, 0, 0, 0, 1], 2)
        self.check_strings([[1, 1, 0, 0, 1], [1, -1, 0, 0, 1]], [1, 0, 0, 0, 1], 1)
        for x in ([-17, -87, -18, 80, 24], [99, -99, 99, 98, 1], [5, 4, 3, 2, 7]):
            self.check_strings([[-99, -99, -99, -99, 1], x, inverse(x), x], UNISON, 2)
            self.check_strings([[99, 99, 99, 99, 1], inverse(x), x, inverse(x)], UNISON, 2)

    def test_as_near_on_one_course(self):
        t = as_bytes(lines("length 60000", "fret 2^1/12", "fret 2^1/6", "fret 2^1/4", "course 1"))
        self.check(t, [1, 0, 0, 0, 24], (1, 0))
        self.check(t, [1, 0, 0, 0, 8], (1, 1))
        self.check(t, [5, 0, 0, 0, 24], (1, 2))

    def test_as_near_on_two_courses(self):
        t = as_bytes(lines("length 60000", "fret 2", "fret 2^2", "course 2^4", "course 2^-1", "bass 2^2", "bass 1"))
        self.check(t, [3, 0, 0, 0, 1], (1, 0))
        self.check(t, [1, 0, 0, 0, 2], (2, 1))
        self.check(t, [3, 0, 0, 0, 2], (2, 2))
        self.check(t, UNISON, (2, 1))
        self.check(t, [-3, 0, 0, 0, 1], (2, 0))
        self.check(t, [2, 0, 0, 0, 1], (3, 0))

    def test_the_same_sound_on_several_courses(self):
        self.check_strings([[1, 0, 0, 0, 1], UNISON, UNISON], UNISON, 2)
        self.check_strings([[1, 0, 0, 0, 1], [0, 1, 0, 0, 1], [0, 1, 0, 0, 1]], [0, 0, 1, 0, 1], 2)
        self.check_strings([[0, 1, 0, 0, 1], [1, 0, 0, 0, 1], [1, 0, 0, 0, 1]], UNISON, 2)
        t = as_bytes(lines("length 60000", "fret 2", "course 1", "course 2", "course 1"))
        self.check(t, [1, 0, 0, 0, 1], (1, 1))
        self.check(t, [9, 0, 0, 0, 1], (2, 1))
        self.check(t, [-9, 0, 0, 0, 1], (1, 0))

    def test_nearly_as_near(self):
        for x, below, above in BELOW_IS_NEARER:
            self.check_strings([below, above], x, 1)
            self.check_strings([above, below], x, 2)
            self.check_strings([above, below, above, below], x, 2)
            self.check_strings([inverse(below), inverse(above)], inverse(x), 1)
            self.check_strings([inverse(above), inverse(below)], inverse(x), 2)

    def test_nearly_as_near_on_one_side(self):
        narrower, wider = [-95, 6, -23, 59, 23], [-17, -87, -18, 80, 24]
        for x in ([50, 0, 0, 0, 1], [0, 99, 0, 0, 1], wider):
            self.check_strings([narrower, wider], x, 2)
            self.check_strings([wider, narrower], x, 1)
        for x in (UNISON, [-50, 0, 0, 0, 1], narrower):
            self.check_strings([narrower, wider], x, 1)
            self.check_strings([wider, narrower], x, 2)

    def test_numbers_at_their_bounds(self):
        for x in ([99, 0, 0, 0, 1], [0, -99, 0, 0, 1], [99, 99, -99, -99, 1], [1, 0, 0, 0, 24], [-99, 0, 0, 0, 23]):
            self.check_strings([inverse(x), x, UNISON], x, 2)

    def test_no_intervals(self):
        for x in NO_INTERVALS:
            self.assertEqual(near(LUTE, x), [-1], x)

    def test_the_largest_instrument(self):
        frets = [[k, 0, 0, 0, 1] for k in range(1, 16)]
        courses = [[-50, 0, -50 - k, 50 + k, 1] for k in range(14)]
        t = as_bytes(write_instrument(60000, frets, courses, []))
        start = time.perf_counter()
        for x in ([-83, 71, 13, -10, 24], [-94, 97, -95, 91, 23], [99, 99, 99, 99, 1], [-99, -99, -99, -99, 1]):
            self.check(t, x, second_near(second_places(frets, courses, []), x))
        self.assertLess(time.perf_counter() - start, 30)

    def test_many_instruments(self):
        source = random.Random(4)
        for k in range(250):
            parts = some_instrument(source)
            t = as_bytes(write_instrument(*parts))
            places = second_places(*parts[1:])
            for j in range(3):
                x = some_interval(source)
                self.check(t, x, second_near(places, x))
            c, f, powers = source.choice(places)
            self.check(t, numbers_of(powers), find(0, t, numbers_of(powers))[1:3])


if __name__ == "__main__":
    unittest.main()
