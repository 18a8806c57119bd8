"""B5: a fret told lies nearest to its place; frets lie in their order."""

import random
import unittest

from gutfrets.instruments import lies, sizes
from helper import as_bytes, lines, powers_of, second_lies, some_instrument, write_instrument

MOST_NUMBER = 2147483647


def told(length, *frets):
    """Where the frets of a length lie, the nut first."""
    t = as_bytes(write_instrument(length, frets, [[0, 0, 0, 0, 1]], []))
    return [lies(f, t) for f in range(len(frets) + 1)]


class LiesTest(unittest.TestCase):
    def check(self, length, frets, places):
        self.assertEqual(told(length, *frets), [[0]] + [[place] for place in places], (length, frets))

    def check_one(self, length, fret, place):
        self.check(length, [fret], [place])

    def test_pure_frets(self):
        frets = ([-3, 2, 0, 0, 1], [-2, 0, 1, 0, 1], [2, -1, 0, 0, 1], [-1, 1, 0, 0, 1], [1, 0, 0, 0, 1])
        self.check(60000, frets, [6667, 12000, 15000, 20000, 30000])

    def test_equal_frets(self):
        frets = [[1, 0, 0, 0, 12], [1, 0, 0, 0, 6], [1, 0, 0, 0, 4], [1, 0, 0, 0, 3], [5, 0, 0, 0, 12]]
        self.check(60000, frets, [3368, 6546, 9546, 12378, 15051])

    def test_meantone_frets(self):
        self.check(70000, [[0, 0, 1, 0, 4], [2, 0, 0, 0, 1]], [23188, 52500])

    def test_the_nut_without_frets(self):
        t = as_bytes(lines("length 60000", "course 2", "bass 1"))
        self.assertEqual(lies(0, t), [0])
        self.assertEqual(lies(1, t), [-4])

    def test_courses_and_basses_do_not_matter(self):
        for behind in (("course 1",), ("course 2^5/12", "course 3"), ("course 7^-1", "bass 2^99", "bass 3^-1/24")):
            t = as_bytes(lines("length 50000", "fret 2^-3 3^2", "fret 2^-1 3", *behind))
            self.assertEqual([lies(f, t) for f in range(4)], [[0], [5556], [16667], [-4]])

    def test_the_first_fret_beyond_the_last(self):
        for count in range(16):
            t = as_bytes(write_instrument(60000, [[k, 0, 0, 0, 1] for k in range(1, count + 1)], [[0, 0, 0, 0, 1]], []))
            self.assertEqual(lies(0, t), [0])
            self.assertEqual(len(lies(count, t)), 1)
            self.assertGreaterEqual(lies(count, t)[0], 0)
            for f in (count + 1, count + 2, 16, 17, MOST_NUMBER - 1, MOST_NUMBER):
                self.assertEqual(lies(f, t), [-4])

    def test_the_shortest_and_the_longest(self):
        for length in (10000, 10001, 199999, 200000):
            for fret in ([1, 0, 0, 0, 12], [-1, 1, 0, 0, 1], [1, 0, 0, 0, 1], [5, -3, 0, 0, 1], [-1, -1, -1, 2, 3]):
                self.check_one(length, fret, second_lies(length, powers_of(fret)))
        self.check(10000, [[1, 0, 0, 0, 12], [1, 0, 0, 0, 1]], [561, 5000])
        self.check(200000, [[1, 0, 0, 0, 12], [1, 0, 0, 0, 1]], [11225, 100000])

    def test_very_near_the_nut(self):
        nearest = [-92, -17, 21, 25, 24]
        for length in (10000, 60000, 200000):
            self.check_one(length, nearest, 0)
        # 32805/32768.
        self.check_one(10000, [-15, 8, 1, 0, 1], 11)
        self.check_one(200000, [-15, 8, 1, 0, 1], 226)
        # 4375/4374, and its 24th part, which on the last two lengths lies on either side of a half.
        self.check_one(10000, [-1, -7, 4, 1, 1], 2)
        self.check_one(10000, [-1, -7, 4, 1, 24], 0)
        self.check_one(200000, [-1, -7, 4, 1, 24], 2)
        self.check_one(52494, [-1, -7, 4, 1, 24], 0)
        self.check_one(52495, [-1, -7, 4, 1, 24], 1)

    def test_many_octaves(self):
        self.check_one(200000, [17, 0, 0, 0, 1], 199998)
        self.check_one(200000, [18, 0, 0, 0, 1], 199999)
        self.check_one(200000, [19, 0, 0, 0, 1], 200000)
        self.check_one(10000, [14, 0, 0, 0, 1], 9999)
        self.check_one(10000, [15, 0, 0, 0, 1], 10000)
        for fret in ([99, 0, 0, 0, 1], [99, 99, 99, 99, 1], [-99, 99, 99, 99, 1], [99, 99, 99, 98, 2]):
            for length in (10000, 123457, 200000):
                self.check_one(length, fret, length)

    def test_half_a_hundredth_from_the_bridge(self):
        # What is left of the string comes to just a half, to a little more and to a little less.
        self.check_one(16384, [15, 0, 0, 0, 1], 16383)
        self.check_one(16385, [15, 0, 0, 0, 1], 16384)
        self.check_one(16383, [15, 0, 0, 0, 1], 16383)

    def test_in_the_middle_the_lesser(self):
        for length in (10001, 10003, 60001, 99999, 199999):
            self.check_one(length, [1, 0, 0, 0, 1], (length - 1) // 2)
        told_in_the_middle = (
            (16384, 12005, [15, 0, -1, -4, 1]), (21875, 6561, [1, -8, 5, 1, 1]), (14336, 1215, [12, -5, -1, 1, 1]),
            (10240, 19683, [12, -9, 1, 0, 1]), (36864, 125, [13, 2, -3, 0, 1]), (26244, 35, [3, 8, -1, -1, 1]),
            (12500, 9, [3, -2, 5, 0, 1]),
        )
        for length, halves, fret in told_in_the_middle:
            self.check_one(length, fret, length - (halves + 1) // 2)
            self.check_one(length - 1, fret, second_lies(length - 1, powers_of(fret)))
            self.check_one(length + 1, fret, second_lies(length + 1, powers_of(fret)))

    def test_a_little_short_of_the_middle(self):
        # What is left of the string is these halves and less than a millionth of a millionth more.
        short = (
            (179708, 231, [-16, 95, -62, 60, 15]), (64277, 39039, [-43, 56, 18, -22, 15]),
            (44119, 10643, [68, -56, -84, 91, 13]), (151841, 13949, [-54, 0, 56, -16, 7]),
            (64277, 50193, [-43, 26, 18, -7, 15]), (140057, 1115, [-15, -24, 30, 31, 13]),
            (16166, 331, [94, 5, -62, 55, 17]), (30598, 9, [90, 85, 39, -8, 23]),
        )
        for length, halves, fret in short:
            self.assertEqual(second_lies(length, powers_of(fret)), length - (halves + 1) // 2)
            self.check_one(length, fret, length - (halves + 1) // 2)

    def test_a_little_beyond_the_middle(self):
        beyond = (
            (58699, 19, [93, -57, 79, 1, 15]), (55770, 64277, [88, -56, -3, 7, 15]),
            (186500, 12689, [-85, -30, 90, 11, 22]), (199981, 5657, [73, 91, -17, -48, 7]),
            (15532, 59, [45, -33, -42, 47, 3]), (36319, 387, [-92, 62, 27, 40, 24]),
        )
        for length, halves, fret in beyond:
            self.assertEqual(second_lies(length, powers_of(fret)), length - (halves - 1) // 2)
            self.check_one(length, fret, length - (halves - 1) // 2)

    def test_two_frets_in_one_place(self):
        frets = [[-1, -7, 4, 1, 24], [-1, -7, 4, 1, 23], [-1, -7, 4, 1, 12]]
        self.check(10000, frets, [0, 0, 0])

    def test_each_fret_of_many_instruments(self):
        source = random.Random(5)
        for k in range(300):
            parts = some_instrument(source)
            t = as_bytes(write_instrument(*parts))
            self.assertEqual(sizes(t)[0], parts[0])
            wanted = [0] + [second_lies(parts[0], powers_of(fret)) for fret in parts[1]]
            given = [lies(f, t) for f in range(len(parts[1]) + 1)]
            self.assertEqual(given, [[place] for place in wanted], parts)
            self.assertEqual(given, sorted(given))
            self.assertEqual(lies(len(parts[1]) + 1, t), [-4])


if __name__ == "__main__":
    unittest.main()
