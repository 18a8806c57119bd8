"""B4: tuned it is the same instrument but for that, and the place sounds just what is wanted."""

import random
import unittest

from gutfrets.instruments import judge, order, sound, tune
from helper import answered, as_bytes, lines, second_places, second_tune, some_instrument, write_instrument

LEAST_NUMBER = -2147483648
MOST_NUMBER = 2147483647
HEAD = ("length 67550", "fret 2^-3 3^2", "fret 2^2 3^-1", "fret 2")
STRINGS = ("course 2^2", "course 3", "course 2^1/2", "bass 2^-1 3", "bass 1")
LUTE = as_bytes(lines(*HEAD, *STRINGS))


class TuneTest(unittest.TestCase):
    def check(self, arguments, c, line):
        """That of the lute just the line of course or bass c becomes this one."""
        told = list(STRINGS)
        told[c - 1] = line
        self.assertEqual(tune(*arguments, LUTE), answered(lines(*HEAD, *told)), arguments)

    def check_text(self, before, arguments, after):
        self.assertEqual(tune(*arguments, as_bytes(lines(*before))), answered(lines(*after)), arguments)

    def check_refused(self, before, arguments, number):
        self.assertEqual(tune(*arguments, as_bytes(lines(*before))), [number], arguments)

    def test_a_course_by_an_open_course(self):
        self.check((1, 0, 2, 0, 0), 1, "course 3")
        self.check((2, 0, 1, 0, 0), 2, "course 2^2")
        self.check((3, 0, 1, 0, 0), 3, "course 2^2")

    def test_a_course_by_a_fret(self):
        self.check((1, 0, 2, 2, 0), 1, "course 2^2")
        self.check((2, 0, 1, 1, 0), 2, "course 2^-1 3^2")
        self.check((2, 2, 1, 0, 0), 2, "course 3")
        self.check((2, 1, 1, 0, 0), 2, "course 2^5 3^-2")
        self.check((1, 1, 2, 2, 0), 1, "course 2^5 3^-2")
        self.check((2, 3, 1, 3, 0), 2, "course 2^2")
        self.check((1, 3, 3, 3, 0), 1, "course 2^1/2")

    def test_a_course_by_a_bass(self):
        self.check((1, 0, 4, 0, 0), 1, "course 2^-1 3")
        self.check((1, 0, 5, 0, 0), 1, "course 1")
        self.check((3, 2, 4, 0, 0), 3, "course 2^-3 3^2")

    def test_a_bass_by_a_course(self):
        self.check((4, 0, 1, 0, 0), 4, "bass 2^2")
        self.check((5, 0, 2, 1, 0), 5, "bass 2^-3 3^3")
        self.check((5, 0, 3, 3, 0), 5, "bass 2^3/2")

    def test_a_bass_by_a_bass(self):
        self.check((4, 0, 5, 0, 0), 4, "bass 1")
        self.check((5, 0, 4, 0, 0), 5, "bass 2^-1 3")

    def test_octaves(self):
        self.check((1, 0, 2, 0, 1), 1, "course 2 3")
        self.check((1, 0, 2, 0, -1), 1, "course 2^-1 3")
        self.check((3, 0, 1, 1, -2), 3, "course 2^-3 3^2")
        self.check((5, 0, 3, 0, 9), 5, "bass 2^19/2")
        self.check((5, 0, 3, 0, -9), 5, "bass 2^-17/2")
        self.check((1, 2, 4, 0, 9), 1, "course 2^6 3^2")
        self.check((1, 2, 4, 0, -9), 1, "course 2^-12 3^2")

    def test_octaves_out_of_bounds(self):
        for o in (-10, 10, -11, 11, 100, LEAST_NUMBER, MOST_NUMBER):
            for arguments in ((1, 0, 2, 0), (1, 0, 1, 0), (0, 0, 9, 9)):
                self.check_refused((*HEAD, *STRINGS), (*arguments, o), -1)

    def test_powers_as_they_are_written(self):
        self.check((5, 0, 1, 0, -1), 5, "bass 2")
        self.check((5, 0, 1, 0, -2), 5, "bass 1")
        self.check((5, 0, 1, 0, -3), 5, "bass 2^-1")
        self.check((5, 0, 4, 0, 1), 5, "bass 3")
        self.check((1, 1, 4, 0, 0), 1, "course 2^2 3^-1")
        self.check((1, 3, 3, 0, 1), 1, "course 2^1/2")
        before = ("length 60000", "fret 2^1/15", "fret 2^2/5", "fret 2^9/10", "course 2^1/10", "course 2^-9/10", "bass 7")
        self.check_text(before, (3, 0, 1, 1, 0), (*before[:-1], "bass 2^1/6"))
        self.check_text(before, (3, 0, 1, 2, 0), (*before[:-1], "bass 2^1/2"))
        self.check_text(before, (3, 0, 1, 3, 0), (*before[:-1], "bass 2"))
        self.check_text(before, (3, 0, 2, 3, 0), (*before[:-1], "bass 1"))
        before = ("length 60000", "course 2^5/12 3^-1/4 5^1/6 7", "bass 1")
        self.check_text(before, (2, 0, 1, 0, 0), (*before[:-1], "bass 2^5/12 3^-1/4 5^1/6 7"))
        self.check_text(before, (2, 0, 1, 0, -1), (*before[:-1], "bass 2^-7/12 3^-1/4 5^1/6 7"))

    def test_nothing_new(self):
        self.check((2, 2, 1, 0, 0), 2, "course 3")
        self.check((1, 0, 5, 0, 2), 1, "course 2^2")

    def test_a_course_by_itself(self):
        for c in range(1, 6):
            self.check_refused((*HEAD, *STRINGS), (c, 0, c, 0, 0), -4)
        for f in range(4):
            for g in range(4):
                self.check_refused((*HEAD, *STRINGS), (2, f, 2, g, 0), -4)

    def test_places_that_are_not_there(self):
        for c, f in (
            (0, 0), (6, 0), (7, 0), (15, 0), (MOST_NUMBER, 0), (1, 4), (3, 4), (1, 16), (1, MOST_NUMBER), (4, 1), (5, 1),
            (5, 3), (5, MOST_NUMBER), (0, MOST_NUMBER), (MOST_NUMBER, MOST_NUMBER),
        ):
            for d, g in ((2, 0), (2, 3), (c, f)):
                for o in (-9, 0, 9):
                    self.check_refused((*HEAD, *STRINGS), (c, f, d, g, o), -4)
                    self.check_refused((*HEAD, *STRINGS), (d, g, c, f, o), -4)

    def test_the_last_places(self):
        self.check((3, 3, 5, 0, 0), 3, "course 2^-1")
        self.check((5, 0, 3, 3, 0), 5, "bass 2^3/2")

    def test_a_power_of_a_bass_out_of_its_bounds(self):
        before = ("length 60000", "course 2^90", "course 2^-90", "bass 1")
        self.check_text(before, (3, 0, 1, 0, 9), (*before[:-1], "bass 2^99"))
        self.check_text(before, (3, 0, 2, 0, -9), (*before[:-1], "bass 2^-99"))
        before = ("length 60000", "course 2^91", "course 2^-91", "bass 1")
        self.check_text(before, (3, 0, 1, 0, 8), (*before[:-1], "bass 2^99"))
        self.check_refused(before, (3, 0, 1, 0, 9), -3)
        self.check_refused(before, (3, 0, 2, 0, -9), -3)
        before = ("length 60000", "course 2^91/24 3^1/24", "bass 1")
        self.check_text(before, (2, 0, 1, 0, 0), (*before[:-1], "bass 2^91/24 3^1/24"))
        self.check_refused(before, (2, 0, 1, 0, 1), -3)

    def test_a_power_of_a_course_out_of_its_bounds(self):
        before = ("length 60000", "course 2^91", "course 1")
        self.check_text(before, (2, 0, 1, 0, 8), (*before[:-1], "course 2^99"))
        self.check_refused(before, (2, 0, 1, 0, 9), -3)
        before = ("length 60000", "fret 3^99", "fret 3^99 5", "course 5^-1", "course 1", "bass 3^-1")
        self.check_text(before, (1, 0, 2, 0, 0), (*before[:3], "course 1", *before[4:]))
        self.check_text(before, (1, 1, 2, 0, 0), (*before[:3], "course 3^-99", *before[4:]))
        self.check_refused(before, (1, 1, 3, 0, 0), -3)
        self.check_refused(before, (2, 2, 3, 0, -1), -3)

    def test_a_divisor_out_of_its_bounds(self):
        before = ("length 60000", "fret 2^1/5", "course 3^1/5", "course 1", "bass 2^1/7", "bass 2^1/4")
        self.check_refused(before, (1, 0, 3, 0, 0), -3)
        self.check_refused(before, (1, 1, 3, 0, 0), -3)
        self.check_text(before, (1, 0, 4, 0, 0), (*before[:2], "course 2^1/4", *before[3:]))
        self.check_text(before, (1, 1, 4, 0, 0), (*before[:2], "course 2^1/20", *before[3:]))
        self.check_text(before, (4, 0, 3, 0, 0), (*before[:-1], "bass 2^1/7"))

    def test_a_course_that_does_not_sound_with_some_fret(self):
        before = ("length 60000", "fret 2", "fret 2^2", "fret 2^3", "course 2^90", "course 2^6", "bass 2^97")
        self.check_text(before, (2, 0, 1, 0, 6), (*before[:-2], "course 2^96", before[-1]))
        self.check_refused(before, (2, 0, 1, 0, 7), -3)
        self.check_refused(before, (2, 0, 3, 0, 0), -3)
        self.check_text(before, (2, 1, 3, 0, 0), (*before[:-2], "course 2^96", before[-1]))
        self.check_text(before, (2, 3, 3, 0, 2), (*before[:-2], "course 2^96", before[-1]))
        self.check_refused(before, (2, 3, 3, 0, 3), -3)
        self.check_refused(before, (2, 2, 1, 3, 9), -3)
        before = ("length 60000", "fret 2^1/24", "fret 2^1/4", "fret 2", "course 1", "bass 2^1/5", "bass 2^23/24", "bass 3^4")
        self.check_refused(before, (1, 0, 2, 0, 0), -3)
        self.check_refused(before, (1, 3, 2, 0, 0), -3)
        self.check_text(before, (1, 1, 3, 0, 0), (*before[:4], "course 2^11/12", *before[5:]))
        self.check_text(before, (1, 0, 4, 0, 0), (*before[:4], "course 3^4", *before[5:]))
        self.check_refused(before, (1, 0, 4, 0, 9), -3)
        self.check_refused(before, (1, 0, 2, 0, 9), -3)

    def test_a_bass_needs_no_fret(self):
        before = ("length 60000", "fret 2", "course 2^98", "bass 1")
        self.check_text(before, (2, 0, 1, 1, 0), (*before[:-1], "bass 2^99"))
        self.check_refused(before, (2, 0, 1, 1, 1), -3)

    def test_many_instruments(self):
        source = random.Random(9)
        refused = 0
        done = 0
        for k in range(300):
            parts = some_instrument(source)
            t = as_bytes(write_instrument(*parts))
            places = second_places(*parts[1:])
            for j in range(4):
                c, f, powers = source.choice(places)
                d, g, others = source.choice(places)
                o = source.randint(-9, 9) if j % 2 else source.randint(-1, 1)
                if c == d:
                    self.assertEqual(tune(c, f, d, g, o, t), [-4])
                    continue
                answer = tune(c, f, d, g, o, t)
                self.assertEqual(answer, second_tune(parts, c, f, d, g, o), (parts, c, f, d, g, o))
                refused += answer == [-3]
                if answer != [-3]:
                    done += 1
                    self.check_tuned(answer, c, f, d, g, o, len(parts[2]) + len(parts[3]))
        self.assertGreater(refused, 20)
        self.assertGreater(done, 200)

    def check_tuned(self, answer, c, f, d, g, o, strings):
        """That the text that came is read again, and the place sounds what is wanted."""
        self.assertEqual(answer[0], len(answer) - 1)
        t = answer[1:]
        self.assertEqual(judge(t), [strings])
        wanted = sound(d, g, t)
        wanted[1] += o * wanted[5]
        self.assertEqual(sound(c, f, t), wanted)
        self.assertEqual(order(c, f, d, g, t), [0 if o < 0 else 1 if o == 0 else 2])
        self.assertEqual(tune(c, f, d, g, o, t), answer)


if __name__ == "__main__":
    unittest.main()
