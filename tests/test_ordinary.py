"""B1, ordinary inputs: instruments of all kinds, both answers of each."""

import random
import unittest

from gutfrets.instrument_text import read_instrument
from helper import answers, as_bytes, lines, some_frets, some_interval, write_instrument


class OrdinaryTest(unittest.TestCase):
    def check(self, text, length, frets, courses, basses):
        self.assertEqual(answers(text), [[courses + basses], [length, frets, courses, basses]])

    def test_one_course_alone(self):
        self.check(lines("length 60000", "course 1"), 60000, 0, 1, 0)

    def test_courses_without_frets_and_basses(self):
        self.check(lines("length 65432", "course 1", "course 2^2 3^-1", "course 2^4 3^-2"), 65432, 0, 3, 0)

    def test_basses_without_frets(self):
        self.check(lines("length 120000", "course 2", "bass 2^-1 3", "bass 1"), 120000, 0, 1, 2)

    def test_frets_without_basses(self):
        self.check(lines("length 70000", "fret 2^1/12", "fret 2^1/6", "course 3^-2", "course 1"), 70000, 2, 2, 0)

    def test_frets_and_basses(self):
        text = lines(
            "length 67550",
            "fret 2^-3 3^-1 5^2",
            "fret 2^-3 3^2",
            "fret 2 3 5^-1",
            "fret 2^-2 5",
            "fret 2^2 3^-1",
            "course 2^2",
            "course 3",
            "course 2^-2 3^2",
            "bass 2^-1 3",
            "bass 1",
            "bass 2^-1",
        )
        self.check(text, 67550, 5, 3, 3)

    def test_fractions_of_a_comma(self):
        # A third of the syntonic comma, then the third and the fifth of quarter-comma meantone.
        text = lines("length 58000", "fret 2^-4/3 3^4/3 5^-1/3", "fret 2^-2 5", "fret 5^1/4", "course 5^-7/4", "bass 7")
        self.check(text, 58000, 3, 1, 1)

    def test_all_four_factors(self):
        self.check(lines("length 60000", "fret 2^-2 3^-1 5 7^1/2", "course 2^-3 3 5 7^-2/3"), 60000, 1, 1, 0)

    def test_basses_alike_and_in_any_order(self):
        text = lines("length 60000", "course 2", "course 2", "course 1", "bass 3", "bass 1", "bass 3")
        self.check(text, 60000, 0, 3, 3)


class OneToOneTest(unittest.TestCase):
    def test_each_instrument_is_read_from_its_text(self):
        source = random.Random(20)
        for k in range(400):
            length = source.randint(10000, 200000)
            courses = [some_interval(source) for j in range(source.randint(1, 7))]
            basses = [some_interval(source) for j in range(source.randint(0, 7))]
            frets = some_frets(source, courses)
            text = write_instrument(length, frets, courses, basses)
            with self.subTest(text=text):
                told = [length, len(frets), len(courses), len(basses)]
                self.assertEqual(answers(text), [[len(courses) + len(basses)], told])
                read = read_instrument(as_bytes(text))
                self.assertEqual([read.length, read.frets, read.courses, read.basses], [length, frets, courses, basses])

    def test_other_texts_of_a_told_instrument_are_refused(self):
        other_texts = ("2^1", "2^01", "2^1/1", "2^2/2", "2^+1", "2 3^0", "2  ", "2 ", " 2", "2*1", "02", "2^1/1 3^0")
        for x in other_texts:
            with self.subTest(x=x):
                self.assertEqual(answers(lines("length 60000", "course " + x))[1], [-6])


if __name__ == "__main__":
    unittest.main()
