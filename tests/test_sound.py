"""B2: each place sounds its open string and its fret upon it; higher frets sound higher."""

import random
import unittest

from gutfrets.instruments import sound
from helper import as_bytes, lines, numbers_of, second_places, size_of, some_instrument, write_instrument

MOST_NUMBER = 2147483647
LUTE = as_bytes(lines(
    "length 67550", "fret 2^-3 3^2", "fret 2^-2 5", "fret 2^2 3^-1", "fret 2",
    "course 2^2", "course 3", "course 2^1/2", "bass 2^-1 3", "bass 1",
))


class SoundTest(unittest.TestCase):
    def check(self, t, c, f, numbers):
        self.assertEqual(sound(c, f, t), [1] + numbers, (c, f))

    def check_no_place(self, t, c, f):
        self.assertEqual(sound(c, f, t), [-4], (c, f))

    def test_open_strings(self):
        self.check(LUTE, 1, 0, [2, 0, 0, 0, 1])
        self.check(LUTE, 2, 0, [0, 1, 0, 0, 1])
        self.check(LUTE, 3, 0, [1, 0, 0, 0, 2])

    def test_basses(self):
        self.check(LUTE, 4, 0, [-1, 1, 0, 0, 1])
        self.check(LUTE, 5, 0, [0, 0, 0, 0, 1])

    def test_fretted_places(self):
        self.check(LUTE, 1, 1, [-1, 2, 0, 0, 1])
        self.check(LUTE, 1, 2, [0, 0, 1, 0, 1])
        self.check(LUTE, 1, 3, [4, -1, 0, 0, 1])
        self.check(LUTE, 1, 4, [3, 0, 0, 0, 1])
        self.check(LUTE, 2, 1, [-3, 3, 0, 0, 1])
        self.check(LUTE, 2, 3, [2, 0, 0, 0, 1])
        self.check(LUTE, 3, 1, [-5, 4, 0, 0, 2])
        self.check(LUTE, 3, 4, [3, 0, 0, 0, 2])

    def test_in_lowest_terms(self):
        t = as_bytes(lines("length 60000", "fret 2^1/15", "fret 2^2/5", "fret 2^9/10", "course 2^1/10", "course 2^-9/10"))
        self.check(t, 1, 1, [1, 0, 0, 0, 6])
        self.check(t, 1, 2, [1, 0, 0, 0, 2])
        self.check(t, 1, 3, [1, 0, 0, 0, 1])
        self.check(t, 2, 1, [-5, 0, 0, 0, 6])
        self.check(t, 2, 2, [-1, 0, 0, 0, 2])
        self.check(t, 2, 3, [0, 0, 0, 0, 1])

    def test_without_frets_and_basses(self):
        t = as_bytes(lines("length 60000", "course 2^-1 3^1/2 5^2/3 7^-3"))
        self.check(t, 1, 0, [-6, 3, 4, -18, 6])
        for c, f in ((1, 1), (2, 0), (0, 0), (2, 1), (1, MOST_NUMBER), (MOST_NUMBER, 0)):
            self.check_no_place(t, c, f)

    def test_intervals_at_their_bounds(self):
        t = as_bytes(lines("length 60000", "fret 2^99 3", "course 3^98", "bass 2^-99 3^-99 5^-99 7^-99", "bass 7^1/24"))
        self.check(t, 1, 0, [0, 98, 0, 0, 1])
        self.check(t, 1, 1, [99, 99, 0, 0, 1])
        self.check(t, 2, 0, [-99, -99, -99, -99, 1])
        self.check(t, 3, 0, [0, 0, 0, 1, 24])

    def test_courses_that_are_not_there(self):
        for c in (0, 6, 7, 14, 15, MOST_NUMBER - 1, MOST_NUMBER):
            for f in (0, 1, 4, 5, MOST_NUMBER):
                self.check_no_place(LUTE, c, f)
        self.assertEqual(sound(5, 0, LUTE)[0], 1)

    def test_frets_that_are_not_there(self):
        for c in (1, 2, 3):
            self.assertEqual(sound(c, 4, LUTE)[0], 1)
            for f in (5, 6, 15, 16, MOST_NUMBER - 1, MOST_NUMBER):
                self.check_no_place(LUTE, c, f)

    def test_a_bass_has_no_frets(self):
        for c in (4, 5):
            for f in (1, 2, 4, 5, 15, MOST_NUMBER):
                self.check_no_place(LUTE, c, f)

    def test_the_largest_instruments(self):
        strings = [[-k, 0, 0, 0, 1] for k in range(14)]
        frets = [[k, 0, 0, 0, 1] for k in range(1, 16)]
        for courses in (1, 13, 14):
            t = as_bytes(write_instrument(60000, frets, strings[:courses], strings[courses:]))
            for c in range(1, 15):
                for f in range(16):
                    if c <= courses or f == 0:
                        self.check(t, c, f, [f - c + 1, 0, 0, 0, 1])
                    else:
                        self.check_no_place(t, c, f)
                self.check_no_place(t, c, 16)
            self.check_no_place(t, 15, 0)

    def test_each_place_of_many_instruments(self):
        source = random.Random(2)
        for k in range(200):
            parts = some_instrument(source)
            t = as_bytes(write_instrument(*parts))
            before = None
            for c, f, powers in second_places(*parts[1:]):
                self.check(t, c, f, numbers_of(powers))
                if f > 0:
                    self.assertGreater(size_of(powers), before)
                before = size_of(powers)
            strings = len(parts[2]) + len(parts[3])
            self.check_no_place(t, 0, 0)
            self.check_no_place(t, strings + 1, 0)
            self.check_no_place(t, 1, len(parts[1]) + 1)
            self.check_no_place(t, strings, len(parts[1]) + 1)
            if parts[3]:
                self.check_no_place(t, strings, 1)


if __name__ == "__main__":
    unittest.main()
