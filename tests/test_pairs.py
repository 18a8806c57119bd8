"""B3: how many pairs of places are an interval apart."""

import random
import time
import unittest
from fractions import Fraction

from gutfrets.instruments import pairs
from helper import (
    NO_INTERVALS, as_bytes, inverse, is_bounded, lines, numbers_of, second_pairs, second_places, some_instrument,
    some_interval, write_instrument,
)

UNISON = [0, 0, 0, 0, 1]
OCTAVE = [1, 0, 0, 0, 1]
FIFTH = [-1, 1, 0, 0, 1]
FOURTH = [2, -1, 0, 0, 1]


class PairsTest(unittest.TestCase):
    def check(self, t, x, count):
        self.assertEqual(pairs(t, x), [count], x)

    def check_both(self, t, x, count):
        """That so many are x apart, of x wider and of x narrower than the unison."""
        self.check(t, x, count)
        self.check(t, inverse(x), count)

    def test_none(self):
        t = as_bytes(lines("length 60000", "course 1", "course 2", "bass 2^-1"))
        for x in (UNISON, FIFTH, FOURTH, [3, 0, 0, 0, 1], [1, 0, 0, 0, 2], [0, 0, 0, 1, 1]):
            self.check_both(t, x, 0)

    def test_one(self):
        t = as_bytes(lines("length 60000", "course 1", "course 2^-1 3"))
        self.check_both(t, FIFTH, 1)
        self.check_both(t, FOURTH, 0)
        t = as_bytes(lines("length 60000", "course 2^-1 3", "bass 1"))
        self.check_both(t, FIFTH, 1)

    def test_many(self):
        t = as_bytes(lines("length 60000", "fret 2^2 3^-1", "fret 2^-1 3", "fret 2", "course 1", "course 2", "bass 2^-1"))
        self.check_both(t, OCTAVE, 5)
        self.check_both(t, FIFTH, 2)
        self.check_both(t, FOURTH, 2)
        self.check_both(t, [2, 0, 0, 0, 1], 3)
        self.check_both(t, [3, 0, 0, 0, 1], 1)
        self.check(t, UNISON, 1)

    def test_of_the_unison_each_two_once(self):
        for count in range(1, 15):
            t = as_bytes(write_instrument(60000, [], [UNISON] * count, []))
            self.check(t, UNISON, count * (count - 1) // 2)
            self.check_both(t, OCTAVE, 0)
            t = as_bytes(write_instrument(60000, [], [UNISON], [UNISON] * (count - 1)))
            self.check(t, UNISON, count * (count - 1) // 2)

    def test_of_another_interval_each_first_with_each_second(self):
        for first in range(1, 8):
            t = as_bytes(write_instrument(60000, [], [UNISON] * first, [OCTAVE] * 7))
            self.check_both(t, OCTAVE, first * 7)
            self.check(t, UNISON, first * (first - 1) // 2 + 21)

    def test_within_one_course(self):
        t = as_bytes(lines("length 60000", "fret 2^2 3^-1", "fret 2^-1 3", "fret 2", "course 1"))
        for x in (UNISON, OCTAVE, FIFTH, FOURTH):
            self.check_both(t, x, 0)
        t = as_bytes(lines("length 60000", "fret 2", "fret 2^2", "course 1", "course 7"))
        self.check_both(t, OCTAVE, 0)
        self.check_both(t, [0, 0, 0, 1, 1], 3)
        self.check_both(t, [1, 0, 0, 1, 1], 2)
        self.check_both(t, [2, 0, 0, 1, 1], 1)
        self.check_both(t, [-2, 0, 0, 1, 1], 1)

    def test_two_basses(self):
        t = as_bytes(lines("length 60000", "course 7", "bass 1", "bass 2", "bass 1"))
        self.check(t, UNISON, 1)
        self.check_both(t, OCTAVE, 2)

    def test_in_lowest_terms(self):
        t = as_bytes(lines("length 60000", "course 2^1/15", "course 2^1/6", "course 2^-1/2", "bass 2^1/2"))
        self.check_both(t, [1, 0, 0, 0, 10], 1)
        self.check_both(t, OCTAVE, 1)
        self.check_both(t, [1, 0, 0, 0, 3], 1)
        self.check_both(t, [2, 0, 0, 0, 3], 1)
        self.check_both(t, [1, 0, 0, 0, 2], 0)

    def test_what_is_no_interval_is_sounded_nowhere(self):
        t = as_bytes(lines("length 60000", "course 2^99", "course 2^-99", "bass 2^1/23", "bass 3^1/24", "bass 2^98"))
        self.check_both(t, OCTAVE, 1)
        self.check_both(t, [99, 0, 0, 0, 1], 0)
        self.check_both(t, [1, 0, 0, 0, 24], 0)
        self.check_both(t, [0, 1, 0, 0, 24], 0)
        t = as_bytes(lines("length 60000", "course 2^99", "course 1", "course 2^-99"))
        self.check_both(t, [99, 0, 0, 0, 1], 2)

    def test_pairs_that_are_nearly_so_far_apart(self):
        narrower, wider = [-95, 6, -23, 59, 23], [-17, -87, -18, 80, 24]
        t = as_bytes(write_instrument(60000, [], [UNISON, narrower], [wider, narrower]))
        self.check_both(t, narrower, 2)
        self.check_both(t, wider, 1)
        self.check(t, UNISON, 1)

    def test_numbers_at_their_bounds(self):
        for x in ([99, 0, 0, 0, 1], [0, -99, 0, 0, 1], [99, 99, -99, -99, 1], [1, 0, 0, 0, 24], [-99, 0, 0, 0, 23]):
            self.check_both(as_bytes(write_instrument(60000, [], [UNISON], [x, UNISON])), x, 2)

    def test_no_intervals(self):
        t = as_bytes(lines("length 60000", "course 1", "course 2^-1 3"))
        for x in NO_INTERVALS:
            self.assertEqual(pairs(t, x), [-1], x)

    def test_the_largest_instrument(self):
        start = time.perf_counter()
        frets = [numbers_of([Fraction(k, 12), Fraction(0), Fraction(0), Fraction(0)]) for k in range(1, 16)]
        t = as_bytes(write_instrument(60000, frets, [UNISON] * 14, []))
        self.check(t, UNISON, 16 * 91)
        self.check_both(t, [1, 0, 0, 0, 12], 15 * 14 * 13)
        self.check_both(t, [5, 0, 0, 0, 4], 14 * 13)
        self.check_both(t, [4, 0, 0, 0, 3], 0)
        self.assertLess(time.perf_counter() - start, 30)

    def test_many_instruments(self):
        source = random.Random(6)
        for k in range(60):
            parts = some_instrument(source)
            t = as_bytes(write_instrument(*parts))
            places = second_places(*parts[1:])
            chosen = [some_interval(source), UNISON, OCTAVE]
            for j in range(3):
                apart = [p - q for p, q in zip(source.choice(places)[2], source.choice(places)[2])]
                if is_bounded(apart):
                    chosen.append(numbers_of(apart))
            for x in chosen:
                self.check_both(t, x, second_pairs(places, x))


if __name__ == "__main__":
    unittest.main()
