"""B2: of two places, which one sounds higher."""

import random
import unittest

from gutfrets.instruments import order
from helper import as_bytes, lines, numbers_of, second_places, size_of, some_instrument, write_instrument

MOST_NUMBER = 2147483647
LUTE = as_bytes(lines(
    "length 67550", "fret 2^-3 3^2", "fret 2^-2 5", "fret 2^2 3^-1", "fret 2",
    "course 2^2", "course 3", "course 2^1/2", "bass 2^-1 3", "bass 1", "bass 2^-1 3",
))
# The second of each two is wider, by less than a float can tell.
VERY_NEAR = (
    ([-95, 6, -23, 59, 23], [-17, -87, -18, 80, 24]), ([-79, -9, -30, 64, 24], [3, -98, -23, 79, 23]),
)


class OrderTest(unittest.TestCase):
    def check(self, t, lower, higher):
        """That the one place sounds lower than the other."""
        self.assertEqual(order(*lower, *higher, t), [0], (lower, higher))
        self.assertEqual(order(*higher, *lower, t), [2], (lower, higher))

    def check_same(self, t, place, other):
        self.assertEqual(order(*place, *other, t), [1], (place, other))
        self.assertEqual(order(*other, *place, t), [1], (place, other))

    def test_places_of_one_course(self):
        for c in (1, 2, 3):
            for f in range(5):
                for g in range(f):
                    self.check(LUTE, (c, g), (c, f))
                self.check_same(LUTE, (c, f), (c, f))

    def test_places_of_two_courses(self):
        self.check(LUTE, (2, 0), (1, 0))
        self.check(LUTE, (2, 2), (1, 0))
        self.check(LUTE, (2, 2), (1, 1))
        self.check(LUTE, (3, 3), (2, 0))
        self.check(LUTE, (3, 4), (2, 0))
        self.check(LUTE, (1, 1), (2, 4))

    def test_places_that_sound_the_same(self):
        self.check_same(LUTE, (2, 3), (1, 0))
        t = as_bytes(lines("length 60000", "fret 2^1/12", "fret 2^1/6", "fret 2^1/4", "course 2^-1/6", "course 2^-1/12"))
        self.check_same(t, (1, 1), (2, 0))
        self.check_same(t, (1, 2), (2, 1))
        self.check_same(t, (1, 3), (2, 2))
        self.check(t, (1, 3), (2, 3))

    def test_basses(self):
        self.check(LUTE, (5, 0), (4, 0))
        self.check_same(LUTE, (4, 0), (6, 0))
        self.check_same(LUTE, (5, 0), (5, 0))
        self.check(LUTE, (4, 0), (1, 0))
        self.check(LUTE, (5, 0), (3, 0))
        self.check(LUTE, (3, 0), (4, 0))

    def test_places_that_differ_by_very_little(self):
        for narrower, wider in VERY_NEAR:
            t = as_bytes(write_instrument(60000, [], [narrower, wider], [wider, narrower]))
            for c in (1, 4):
                for d in (2, 3):
                    self.check(t, (c, 0), (d, 0))
            self.check_same(t, (1, 0), (4, 0))
            self.check_same(t, (2, 0), (3, 0))
            t = as_bytes(write_instrument(60000, [narrower, wider], [[0, 0, 0, 0, 1]], [wider, narrower]))
            self.check(t, (1, 1), (1, 2))
            self.check(t, (1, 1), (2, 0))
            self.check(t, (3, 0), (1, 2))
            self.check_same(t, (1, 1), (3, 0))
            self.check_same(t, (1, 2), (2, 0))

    def test_one_fret_very_near_the_nut(self):
        t = as_bytes(lines("length 60000", "fret 2^-23/6 3^-17/24 5^7/8 7^25/24", "course 1", "course 2^-1/24"))
        self.check(t, (1, 0), (1, 1))
        self.check(t, (2, 1), (1, 0))

    def test_the_widest_and_the_narrowest(self):
        t = as_bytes(lines(
            "length 60000", "course 2^-99 3^-99 5^-99 7^-99", "course 2^99 3^99 5^99 7^99",
            "bass 2^-97/24 3^-97/24 5^-97/24 7^-97/24", "bass 2^95/23 3^95/23 5^95/23 7^95/23",
        ))
        for lower, higher in ((1, 2), (1, 3), (1, 4), (3, 4), (3, 2), (4, 2)):
            self.check(t, (lower, 0), (higher, 0))

    def test_places_that_are_not_there(self):
        for c, f in (
            (0, 0), (0, 1), (7, 0), (8, 0), (14, 0), (15, 0), (MOST_NUMBER, 0), (1, 5), (3, 5), (1, 15), (1, 16),
            (1, MOST_NUMBER), (4, 1), (6, 1), (4, 4), (5, MOST_NUMBER), (MOST_NUMBER, MOST_NUMBER),
        ):
            for d, g in ((1, 0), (3, 4), (6, 0), (c, f)):
                self.assertEqual(order(c, f, d, g, LUTE), [-4], (c, f, d, g))
                self.assertEqual(order(d, g, c, f, LUTE), [-4], (d, g, c, f))

    def test_the_last_places(self):
        self.check(LUTE, (6, 0), (3, 4))
        self.check(LUTE, (6, 0), (1, 4))

    def test_two_places_of_many_instruments(self):
        source = random.Random(11)
        answered = set()
        for k in range(300):
            parts = some_instrument(source)
            t = as_bytes(write_instrument(*parts))
            places = second_places(*parts[1:])
            for j in range(20):
                c, f, powers = source.choice(places)
                d, g, others = source.choice(places)
                if numbers_of(powers) == numbers_of(others):
                    wanted = 1
                else:
                    wanted = 0 if size_of(powers) < size_of(others) else 2
                self.assertEqual(order(c, f, d, g, t), [wanted], (parts, c, f, d, g))
                answered.add(wanted)
        self.assertEqual(answered, {0, 1, 2})


if __name__ == "__main__":
    unittest.main()
