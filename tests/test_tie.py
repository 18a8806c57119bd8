"""B4: tied it is the same instrument but for that."""

import random
import unittest

from gutfrets.instruments import lies, sizes, sound, tie
from helper import (
    NO_INTERVALS, answered, as_bytes, inverse, is_bounded, lines, numbers_of, powers_of, second_lies, second_tie,
    some_instrument, some_interval, sum_of, write_instrument, write_interval,
)

MOST_NUMBER = 2147483647
FRETS = ("fret 2^-3 3^2", "fret 2^2 3^-1", "fret 2")
STRINGS = ("course 2^2", "course 3", "bass 2^-1 3", "bass 1")
LUTE = as_bytes(lines("length 67550", *FRETS, *STRINGS))
NARROWER, WIDER = [-95, 6, -23, 59, 23], [-17, -87, -18, 80, 24]
VERY_NARROW = [-92, -17, 21, 25, 24]


class TieTest(unittest.TestCase):
    def check(self, f, x, line):
        """That of the lute just the line of fret f becomes this one."""
        told = list(FRETS)
        told[f - 1] = line
        self.assertEqual(tie(f, LUTE, x), answered(lines("length 67550", *told, *STRINGS)), (f, x))

    def check_tied(self, frets, strings, f, x, right):
        """Whether fret f of these can be tied to x."""
        before = ["length 60000"] + ["fret " + write_interval(fret) for fret in frets]
        after = list(before)
        after[f] = "fret " + write_interval(x)
        wanted = answered(lines(*after, *strings)) if right else [-3]
        self.assertEqual(tie(f, as_bytes(lines(*before, *strings)), x), wanted, (frets, f, x))

    def test_the_first_fret(self):
        self.check(1, [1, 0, 0, 0, 12], "fret 2^1/12")
        self.check(1, [-2, 0, 1, 0, 1], "fret 2^-2 5")

    def test_a_middle_fret(self):
        self.check(2, [-2, 0, 1, 0, 1], "fret 2^-2 5")
        self.check(2, [-1, 1, 0, 0, 1], "fret 2^-1 3")
        self.check(2, [1, 0, 0, 0, 2], "fret 2^1/2")

    def test_the_last_fret(self):
        self.check(3, [-1, 1, 0, 0, 1], "fret 2^-1 3")
        self.check(3, [2, 0, 0, 0, 1], "fret 2^2")
        self.check(3, [0, 1, 0, 0, 1], "fret 3")
        self.check(3, [50, 0, 0, 0, 1], "fret 2^50")

    def test_as_it_was(self):
        self.check(1, [-3, 2, 0, 0, 1], FRETS[0])
        self.check(2, [2, -1, 0, 0, 1], FRETS[1])
        self.check(3, [1, 0, 0, 0, 1], FRETS[2])

    def test_powers_as_they_are_written(self):
        strings = ("course 1", "bass 7^-1/24")
        for x, text in (
            ([1, 0, 0, 0, 1], "2"), ([0, 0, 0, 1, 1], "7"), ([-1, 1, 0, 0, 1], "2^-1 3"), ([5, 0, 0, 0, 12], "2^5/12"),
            ([4, -3, 1, 0, 12], "2^1/3 3^-1/4 5^1/12"), ([12, 6, -4, 3, 12], "2 3^1/2 5^-1/3 7^1/4"),
            ([-24, 24, 0, 1, 24], "2^-1 3 7^1/24"), ([0, 6, 0, -3, 2], "3^3 7^-3/2"), ([99, 99, 99, 99, 1], None),
            ([97, 97, 97, 97, 24], "2^97/24 3^97/24 5^97/24 7^97/24"), ([-99, 98, 0, 0, 1], "2^-99 3^98"),
        ):
            if text is not None:
                self.assertEqual(write_interval(x), text)
            self.check_tied([[0, 0, 1, 0, 9]], strings, 1, x, True)

    def test_no_such_fret(self):
        for f in (0, 4, 5, 15, 16, MOST_NUMBER - 1, MOST_NUMBER):
            for x in ([1, 0, 0, 0, 12], [0, 0, 0, 0, 1], [99, 99, 99, 99, 1], [-1, 0, 0, 0, 1]):
                self.assertEqual(tie(f, LUTE, x), [-4], (f, x))
        t = as_bytes(lines("length 60000", "course 1"))
        for f in (0, 1, MOST_NUMBER):
            self.assertEqual(tie(f, t, [1, 0, 0, 0, 12]), [-4])

    def test_no_intervals(self):
        for x in NO_INTERVALS:
            for f in (0, 1, 3, 4, MOST_NUMBER):
                self.assertEqual(tie(f, LUTE, x), [-1], (f, x))

    def test_not_wider_than_the_unison(self):
        strings = ("course 1",)
        for frets in ([[1, 0, 0, 0, 1]], [[1, 0, 0, 0, 2], [1, 0, 0, 0, 1]]):
            for x in ([0, 0, 0, 0, 1], [-1, 0, 0, 0, 1], [-1, 0, 0, 0, 24], inverse(VERY_NARROW), [1, -1, 0, 0, 1]):
                self.check_tied(frets, strings, 1, x, False)
            for x in ([1, 0, 0, 0, 24], VERY_NARROW):
                self.check_tied(frets, strings, 1, x, True)

    def test_not_wider_than_the_one_before(self):
        strings = ("course 1",)
        frets = [[-3, 2, 0, 0, 1], [2, -1, 0, 0, 1], [1, 0, 0, 0, 1]]
        for f, x, right in (
            (2, [-3, 2, 0, 0, 1], False), (2, [1, 1, -1, 0, 1], True), (2, [1, 0, 0, 0, 12], False),
            (2, [0, 0, 0, 0, 1], False), (3, [2, -1, 0, 0, 1], False), (3, [-2, 0, 1, 0, 1], False),
            (3, [-1, 1, 0, 0, 1], True), (3, [5, 0, 0, 0, 12], True), (3, [-1, 0, 0, 0, 1], False),
        ):
            self.check_tied(frets, strings, f, x, right)

    def test_the_next_is_not_wider(self):
        strings = ("course 1",)
        frets = [[-3, 2, 0, 0, 1], [2, -1, 0, 0, 1], [1, 0, 0, 0, 1]]
        for f, x, right in (
            (1, [2, -1, 0, 0, 1], False), (1, [-2, 0, 1, 0, 1], True), (1, [5, 0, 0, 0, 12], False),
            (1, [3, 0, 0, 0, 1], False), (2, [1, 0, 0, 0, 1], False), (2, [0, 1, 0, 0, 1], False),
            (2, [23, 0, 0, 0, 24], True), (3, [0, 1, 0, 0, 1], True),
        ):
            self.check_tied(frets, strings, f, x, right)

    def test_wider_by_very_little(self):
        strings = ("course 1",)
        most = [99, 0, 0, 0, 1]
        least = [1, 0, 0, 0, 24]
        self.check_tied([NARROWER, most], strings, 2, WIDER, True)
        self.check_tied([WIDER, most], strings, 2, NARROWER, False)
        self.check_tied([least, WIDER], strings, 1, NARROWER, True)
        self.check_tied([least, NARROWER], strings, 1, WIDER, False)
        self.check_tied([least, NARROWER], strings, 1, NARROWER, False)
        self.check_tied([least, NARROWER, most], strings, 2, WIDER, True)
        self.check_tied([NARROWER, WIDER], strings, 1, WIDER, False)
        self.check_tied([NARROWER, WIDER], strings, 2, NARROWER, False)

    def test_a_course_that_does_not_sound_an_interval(self):
        frets = [[1, 0, 0, 0, 12], [1, 0, 0, 0, 1]]
        self.check_tied(frets, ("course 1", "course 2^-1/12"), 1, [1, 0, 0, 0, 8], True)
        self.check_tied(frets, ("course 1", "course 2^-1/12"), 1, [1, 0, 0, 0, 5], False)
        self.check_tied(frets, ("course 2^-1/12", "course 1"), 1, [1, 0, 0, 0, 5], False)
        self.check_tied(frets, ("course 1", "course 3^-1"), 1, [1, 0, 0, 0, 5], True)
        self.check_tied([[1, 0, 0, 0, 1]], ("course 2^-98", "course 2^97"), 1, [2, 0, 0, 0, 1], True)
        self.check_tied([[1, 0, 0, 0, 1]], ("course 2^-98", "course 2^97"), 1, [3, 0, 0, 0, 1], False)
        self.check_tied([[1, 0, 0, 0, 1]], ("course 2^-98", "course 2^97"), 1, [-1, 1, 0, 0, 1], True)
        self.check_tied([[1, 0, 0, 0, 1]], ("course 2^-98", "course 2^97"), 1, [-2, 0, 1, 0, 1], False)
        self.check_tied([[1, 0, 0, 0, 1]], ("course 2^-98", "course 2^97"), 1, [1, 0, 0, 0, 2], False)

    def test_basses_sound_with_no_fret(self):
        self.check_tied([[1, 0, 0, 0, 1]], ("course 1", "bass 2^99", "bass 2^1/23"), 1, [3, 0, 0, 0, 1], True)
        self.check_tied([[1, 0, 0, 0, 1]], ("course 1", "bass 2^99", "bass 2^1/23"), 1, [1, 0, 0, 0, 24], True)

    def test_each_of_fifteen_frets(self):
        frets = [[2 * k, 0, 0, 0, 1] for k in range(1, 16)]
        for f in range(1, 16):
            for octaves in (2 * f - 1, 2 * f, 2 * f + 1):
                self.check_tied(frets, ("course 1",) * 14, f, [octaves, 0, 0, 0, 1], True)
            self.check_tied(frets, ("course 1",) * 14, f, [2 * f - 2, 0, 0, 0, 1], False)
            self.check_tied(frets, ("course 1",) * 14, f, [2 * f + 2, 0, 0, 0, 1], f == 15)

    def test_many_instruments(self):
        source = random.Random(10)
        done = 0
        refused = 0
        for k in range(400):
            parts = some_instrument(source)
            t = as_bytes(write_instrument(*parts))
            for f in range(1, len(parts[1]) + 1):
                x = self.some_fret(source, parts[1], f)
                answer = tie(f, t, x)
                self.assertEqual(answer, second_tie(parts, f, x), (parts, f, x))
                refused += answer == [-3]
                if answer != [-3]:
                    done += 1
                    self.check_read_again(answer, parts, f, x)
        self.assertGreater(done, 200)
        self.assertGreater(refused, 200)

    def some_fret(self, source, frets, f):
        """Any interval, or one a little off the fret's or off the next one's."""
        comma = source.choice(([0, 0, 0, 0, 1], [-4, 4, -1, 0, 1], [4, -4, 1, 0, 1], [1, 0, 0, 0, 12], [-1, 0, 0, 0, 12]))
        fret = frets[min(f, len(frets) - 1)] if source.random() < 0.3 else frets[f - 1]
        powers = sum_of(powers_of(fret), powers_of(comma))
        return numbers_of(powers) if is_bounded(powers) and source.random() < 0.8 else some_interval(source)

    def check_read_again(self, answer, parts, f, x):
        t = answer[1:]
        self.assertEqual(sizes(t), [parts[0]] + [len(told) for told in parts[1:]])
        self.assertEqual(lies(f, t), [second_lies(parts[0], powers_of(x))])
        for c in range(1, len(parts[2]) + len(parts[3]) + 1):
            self.assertEqual(sound(c, 0, t), [1] + (parts[2] + parts[3])[c - 1])
        self.assertEqual(tie(f, t, parts[1][f - 1]), answered(write_instrument(*parts)))


if __name__ == "__main__":
    unittest.main()
