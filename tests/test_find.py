"""B3: places found are all that sound so, in order."""

import random
import unittest

from gutfrets.instruments import find
from helper import (
    NO_INTERVALS, as_bytes, lines, numbers_of, second_places, some_instrument, some_interval, write_instrument,
)

MOST_NUMBER = 2147483647
LUTE = as_bytes(lines(
    "length 67550", "fret 2^-3 3^2", "fret 2^-2 5", "fret 2^2 3^-1", "fret 2",
    "course 2^2", "course 3", "course 2^1/2", "bass 2^-1 3", "bass 1",
))


def told(*places):
    """The answer of these places."""
    return [len(places)] + [number for place in places for number in place]


class FindTest(unittest.TestCase):
    def check(self, t, x, same, alike):
        """That these places sound x, and these ones x in any octave."""
        self.assertEqual(find(0, t, x), told(*same), x)
        self.assertEqual(find(1, t, x), told(*alike), x)

    def test_no_place(self):
        self.check(LUTE, [0, 0, 0, 1, 1], [], [])
        self.check(LUTE, [0, 0, 0, -1, 2], [], [])
        self.check(LUTE, [1, 0, 0, 0, 24], [], [])

    def test_one_place(self):
        self.check(LUTE, [-2, 1, 1, 0, 1], [(2, 2)], [(2, 2)])
        self.check(LUTE, [-3, 0, 2, 0, 2], [(3, 2)], [(3, 2)])

    def test_several_places(self):
        self.check(LUTE, [2, 0, 0, 0, 1], [(1, 0), (2, 3)], [(1, 0), (1, 4), (2, 3), (5, 0)])

    def test_octaves_higher_and_lower(self):
        alike = [(1, 0), (1, 4), (2, 3), (5, 0)]
        self.check(LUTE, [0, 0, 0, 0, 1], [(5, 0)], alike)
        self.check(LUTE, [3, 0, 0, 0, 1], [(1, 4)], alike)
        self.check(LUTE, [1, 0, 0, 0, 1], [], alike)
        self.check(LUTE, [99, 0, 0, 0, 1], [], alike)
        self.check(LUTE, [-99, 0, 0, 0, 1], [], alike)
        self.check(LUTE, [0, 1, 0, 0, 1], [(2, 0)], [(2, 0), (2, 4), (4, 0)])
        self.check(LUTE, [-99, 1, 0, 0, 1], [], [(2, 0), (2, 4), (4, 0)])

    def test_octaves_of_fractions(self):
        self.check(LUTE, [1, 0, 0, 0, 2], [(3, 0)], [(3, 0), (3, 4)])
        self.check(LUTE, [-1, 0, 0, 0, 2], [], [(3, 0), (3, 4)])
        self.check(LUTE, [99, 0, 0, 0, 2], [], [(3, 0), (3, 4)])
        self.check(LUTE, [1, 0, 0, 0, 3], [], [])
        t = as_bytes(lines("length 60000", "fret 2^1/3", "fret 2^2/3", "fret 2", "course 2^1/3 3^1/2", "bass 2^-5/3 3^1/2"))
        self.check(t, [2, 3, 0, 0, 6], [(1, 0)], [(1, 0), (1, 3), (2, 0)])
        self.check(t, [8, 3, 0, 0, 6], [(1, 3)], [(1, 0), (1, 3), (2, 0)])
        self.check(t, [4, 3, 0, 0, 6], [(1, 1)], [(1, 1)])
        self.check(t, [0, 1, 0, 0, 2], [], [(1, 2)])
        self.check(t, [1, 1, 0, 0, 2], [], [])

    def test_other_factors_are_no_octaves(self):
        t = as_bytes(lines("length 60000", "course 1", "course 3", "course 5", "course 7", "bass 2", "bass 2^1/2"))
        self.check(t, [0, 0, 0, 0, 1], [(1, 0)], [(1, 0), (5, 0)])
        self.check(t, [0, 1, 0, 0, 1], [(2, 0)], [(2, 0)])
        self.check(t, [5, 0, 1, 0, 1], [], [(3, 0)])
        self.check(t, [-5, 0, 0, 1, 1], [], [(4, 0)])

    def test_by_course_then_fret(self):
        t = as_bytes(lines("length 60000", "fret 2", "fret 2^2", "course 2^-1", "course 1", "course 2^-1", "bass 2", "bass 1"))
        self.check(
            t, [0, 0, 0, 0, 1], [(1, 1), (2, 0), (3, 1), (5, 0)],
            [(1, 0), (1, 1), (1, 2), (2, 0), (2, 1), (2, 2), (3, 0), (3, 1), (3, 2), (4, 0), (5, 0)],
        )

    def test_the_unison(self):
        t = as_bytes(lines("length 60000", "course 1"))
        self.check(t, [0, 0, 0, 0, 1], [(1, 0)], [(1, 0)])
        t = as_bytes(lines("length 60000", "course 3"))
        self.check(t, [0, 0, 0, 0, 1], [], [])

    def test_numbers_at_their_bounds(self):
        for x in ([99, 99, 99, 99, 1], [-99, -99, -99, -99, 1], [1, 0, 0, 0, 24], [99, -99, 98, -98, 1]):
            t = as_bytes(write_instrument(60000, [], [x], [[0, 0, 0, 0, 1], x]))
            self.check(t, x, [(1, 0), (3, 0)], [(1, 0), (3, 0)])
        t = as_bytes(lines("length 60000", "course 2^99", "course 2^-99", "bass 2^99 3^99"))
        self.check(t, [99, 0, 0, 0, 1], [(1, 0)], [(1, 0), (2, 0)])
        self.check(t, [-99, 99, 0, 0, 1], [], [(3, 0)])

    def test_octaves_above_one(self):
        for octaves in (2, 3, MOST_NUMBER - 1, MOST_NUMBER):
            for x in ([0, 0, 0, 0, 1], [2, 0, 0, 0, 1], [], [0, 0, 0, 0, 2]):
                self.assertEqual(find(octaves, LUTE, x), [-1])

    def test_no_intervals(self):
        for x in NO_INTERVALS:
            for octaves in (0, 1):
                self.assertEqual(find(octaves, LUTE, x), [-1], x)

    def test_the_largest_instrument(self):
        frets = [[k, 0, 0, 0, 1] for k in range(1, 16)]
        t = as_bytes(write_instrument(60000, frets, [[-k, 0, 0, 0, 1] for k in range(14)], []))
        places = [(c, f) for c in range(1, 15) for f in range(16)]
        self.check(t, [0, 0, 0, 0, 1], [(k, k - 1) for k in range(1, 15)], places)
        self.check(t, [0, 1, 0, 0, 1], [], [])

    def test_many_instruments(self):
        source = random.Random(3)
        for k in range(300):
            parts = some_instrument(source)
            t = as_bytes(write_instrument(*parts))
            places = second_places(*parts[1:])
            for j in range(6):
                powers = source.choice(places)[2]
                x = source.choice((numbers_of(powers), numbers_of([powers[0] - 1] + powers[1:]), some_interval(source)))
                if max([abs(power) for power in x[:4]]) > 99:
                    self.assertEqual(find(0, t, x), [-1])
                    continue
                same = [(c, f) for c, f, sounded in places if numbers_of(sounded) == x]
                alike = []
                for c, f, sounded in places:
                    apart = [x[4] * power - number for power, number in zip(sounded, x)]
                    if apart[1:] == [0, 0, 0] and apart[0] % x[4] == 0:
                        alike.append((c, f))
                self.check(t, x, same, alike)


if __name__ == "__main__":
    unittest.main()
