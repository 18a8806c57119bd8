"""B4: raised it is the same instrument but for that, and what was x apart is so still."""

import random
import unittest

from gutfrets.instruments import find, lies, near, order, pairs, raise_by, sizes, sound
from helper import (
    NO_INTERVALS, answered, as_bytes, inverse, is_bounded, lines, numbers_of, powers_of, second_places, second_raise,
    some_instrument, some_interval, sum_of, write_instrument, write_interval,
)

UNISON = [0, 0, 0, 0, 1]
OCTAVE = [1, 0, 0, 0, 1]
FIFTH = [-1, 1, 0, 0, 1]
HEAD = ("length 67550", "fret 2^-3 3^2", "fret 2^2 3^-1", "fret 2")
STRINGS = ("course 2^2", "course 3", "course 2^1/2", "bass 2^-1 3", "bass 1")


class RaiseTest(unittest.TestCase):
    def check(self, before, x, after):
        self.assertEqual(raise_by(as_bytes(lines(*before)), x), answered(lines(*after)), x)

    def check_refused(self, before, x):
        self.assertEqual(raise_by(as_bytes(lines(*before)), x), [-3], x)

    def check_strings(self, before, x, after):
        """Without frets: as courses, and but for the first as basses."""
        for words in (["course"] * len(before), ["course"] + ["bass"] * (len(before) - 1)):
            self.check(
                ["length 60000"] + [f"{word} {text}" for word, text in zip(words, before)], x,
                ["length 60000"] + [f"{word} {text}" for word, text in zip(words, after)],
            )

    def test_wider(self):
        self.check((*HEAD, *STRINGS), FIFTH, (
            *HEAD, "course 2 3", "course 2^-1 3^2", "course 2^-1/2 3", "bass 2^-2 3^2", "bass 2^-1 3",
        ))
        self.check((*HEAD, *STRINGS), [1, 0, 0, 0, 12], (
            *HEAD, "course 2^25/12", "course 2^1/12 3", "course 2^7/12", "bass 2^-11/12 3", "bass 2^1/12",
        ))

    def test_narrower(self):
        self.check((*HEAD, *STRINGS), inverse(FIFTH), (
            *HEAD, "course 2^3 3^-1", "course 2", "course 2^3/2 3^-1", "bass 1", "bass 2 3^-1",
        ))
        self.check((*HEAD, *STRINGS), [-2, 0, 0, 0, 1], (
            *HEAD, "course 1", "course 2^-2 3", "course 2^-3/2", "bass 2^-3 3", "bass 2^-2",
        ))

    def test_by_the_unison(self):
        self.check((*HEAD, *STRINGS), UNISON, (*HEAD, *STRINGS))
        self.check(("length 60000", "course 1"), UNISON, ("length 60000", "course 1"))

    def test_without_frets_and_basses(self):
        self.check(("length 10000", "course 5"), [0, 0, 1, 1, 1], ("length 10000", "course 5^2 7"))
        self.check(("length 200000", "course 5", "bass 7^-1"), [0, 0, 1, 1, 1], ("length 200000", "course 5^2 7", "bass 5"))
        self.check(("length 60000", "fret 3", "course 2"), OCTAVE, ("length 60000", "fret 3", "course 2^2"))

    def test_powers_as_they_are_written(self):
        self.check_strings(["1", "2", "2^-1", "2^-2", "2^2"], OCTAVE, ["2", "2^2", "1", "2^-1", "2^3"])
        self.check_strings(["2^5/12", "2^1/2", "2^-1/2", "1"], [1, 0, 0, 0, 2], ["2^11/12", "2", "1", "2^1/2"])
        self.check_strings(["2^1/15", "2^2/5", "2^-1/10"], [1, 0, 0, 0, 10], ["2^1/6", "2^1/2", "1"])
        self.check_strings(["2 3^-1/2 5", "3^1/2", "7^-1"], [0, 1, 0, 2, 2], ["2 5 7", "3 7", "3^1/2"])
        self.check_strings(["2^-1/24 3^5/24", "3^5/24"], [1, -5, 0, 0, 24], ["1", "2^1/24"])

    def test_a_power_of_a_course_out_of_its_bounds(self):
        for digit, position in (("2", 0), ("3", 1), ("5", 2), ("7", 3)):
            for sign, by in (("", 1), ("-", -1)):
                x = list(UNISON)
                x[position] = by
                self.check_strings(["1", f"{digit}^{sign}98"], x, [write_interval(x), f"{digit}^{sign}99"])
                self.check_refused(("length 60000", f"course {digit}^{sign}99"), x)
                self.check_refused(("length 60000", "course 1", f"course {digit}^{sign}99", "course 1"), x)
                self.check_refused(("length 60000", "course 1", f"bass {digit}^{sign}99"), x)
                self.check_refused(("length 60000", "course 1", "bass 1", f"bass {digit}^{sign}99", "bass 1"), x)

    def test_a_divisor_out_of_its_bounds(self):
        for before in (("course 2^1/5",), ("course 1", "course 3^1/5"), ("course 1", "bass 2^1/5"), ("course 1", "bass 7^-1/5")):
            before = ("length 60000", *before)
            self.assertEqual(raise_by(as_bytes(lines(*before)), [1, 0, 0, 0, 4])[0] > 0, True)
            self.check_refused(before, [1, 0, 0, 0, 6])
            self.check_refused(before, [1, 0, 0, 0, 24])
        self.check_strings(["2^1/23"], [1, 0, 0, 0, 23], ["2^2/23"])
        self.check_refused(("length 60000", "course 2^1/23"), [1, 0, 0, 0, 24])

    def test_a_power_by_the_common_divisor(self):
        self.check_strings(["3^33"], [1, 0, 0, 0, 3], ["2^1/3 3^33"])
        self.check_refused(("length 60000", "course 3^34"), [1, 0, 0, 0, 3])
        self.check_refused(("length 60000", "course 1", "bass 3^34"), [1, 0, 0, 0, 3])
        self.check_refused(("length 60000", "course 1", "bass 3^-34"), [1, 0, 0, 0, 3])

    def test_a_course_that_does_not_sound_with_some_fret(self):
        before = ("length 60000", "fret 2", "fret 2^2", "course 1", "course 2^96")
        self.check(before, OCTAVE, (*before[:3], "course 2", "course 2^97"))
        self.check_refused(before, [2, 0, 0, 0, 1])
        self.check_refused(before, [3, 0, 0, 0, 1])
        before = ("length 60000", "fret 2^-2 3^2", "course 2^-96", "course 1")
        self.check(before, [-1, 0, 0, 0, 1], (*before[:2], "course 2^-97", "course 2^-1"))
        self.check_refused(before, [-2, 0, 0, 0, 1])
        before = ("length 60000", "fret 2^1/5", "fret 2", "course 1", "course 3")
        self.check(before, [1, 0, 0, 0, 4], (*before[:3], "course 2^1/4", "course 2^1/4 3"))
        self.check_refused(before, [1, 0, 0, 0, 6])
        self.check_refused(before, [1, 0, 0, 0, 7])

    def test_a_bass_sounds_with_no_fret(self):
        before = ("length 60000", "fret 2", "fret 2^2", "course 1", "bass 2^97")
        self.check(before, [2, 0, 0, 0, 1], (*before[:3], "course 2^2", "bass 2^99"))
        self.check_refused(before, [3, 0, 0, 0, 1])

    def test_numbers_at_their_bounds(self):
        for x in (
            [99, 0, 0, 0, 1], [0, -99, 0, 0, 1], [0, 0, 99, 0, 1], [0, 0, 0, -99, 1], [99, -99, 99, -99, 1],
            [1, 0, 0, 0, 24], [-1, 0, 0, 5, 24], [98, 97, 96, 95, 23],
        ):
            self.check_strings(["1", "1"], x, [write_interval(x)] * 2)
            self.check_strings([write_interval(inverse(x)), "1"], x, ["1", write_interval(x)])

    def test_no_intervals(self):
        for x in NO_INTERVALS:
            self.assertEqual(raise_by(as_bytes(lines(*HEAD, *STRINGS)), x), [-1], x)

    def test_the_largest_instruments(self):
        frets = [f"fret 2^{k}" for k in range(2, 17)]
        self.check(
            ("length 60000", *frets, *["course 3^-1"] * 14), [0, 1, 0, 0, 1], ("length 60000", *frets, *["course 1"] * 14),
        )
        self.check(
            ("length 60000", *frets, "course 3", *["bass 3"] * 13), [0, 1, 0, 0, 1],
            ("length 60000", *frets, "course 3^2", *["bass 3^2"] * 13),
        )

    def test_many_instruments(self):
        source = random.Random(12)
        refused = 0
        done = 0
        for k in range(500):
            parts = some_instrument(source)
            t = as_bytes(write_instrument(*parts))
            x = source.choice((some_interval(source), [source.randint(-3, 3), 0, 0, 0, 1], FIFTH, inverse(FIFTH)))
            answer = raise_by(t, x)
            self.assertEqual(answer, second_raise(parts, x), (parts, x))
            refused += answer == [-3]
            if answer != [-3]:
                done += 1
                self.check_raised(source, parts, x, answer)
        self.assertGreater(refused, 50)
        self.assertGreater(done, 200)

    def check_raised(self, source, parts, x, answer):
        """That the text is read again, each open string is x upon what it was, and what was apart is so still."""
        before = as_bytes(write_instrument(*parts))
        t = answer[1:]
        self.assertEqual(sizes(t), sizes(before))
        self.assertEqual([lies(f, t) for f in range(17)], [lies(f, before) for f in range(17)])
        places = second_places(*parts[1:])
        for c, f, powers in places:
            if f == 0:
                self.assertEqual(sound(c, 0, t), [1] + numbers_of(sum_of(powers, powers_of(x))))
        c, f, powers = source.choice(places)
        d, g, others = source.choice(places)
        self.assertEqual(order(c, f, d, g, t), order(c, f, d, g, before))
        apart = [p - q for p, q in zip(others, powers)]
        for y in (UNISON, OCTAVE, numbers_of(apart) if is_bounded(apart) else FIFTH):
            self.assertEqual(pairs(t, y), pairs(before, y))
        raised = numbers_of(sum_of(powers, powers_of(x)))
        self.assertEqual(find(1, t, raised), find(1, before, numbers_of(powers)))
        self.assertEqual(near(t, raised), near(before, numbers_of(powers)))
        self.assertEqual(raise_by(t, inverse(x)), answered(write_instrument(*parts)))


if __name__ == "__main__":
    unittest.main()
