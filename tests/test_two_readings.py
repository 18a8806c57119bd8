"""B1: judge and sizes answer as a second reading by other means does, of many texts nearly right."""

import random
import unittest

from helper import answers, answers_of_second_reading, lines

SIGNS = "\0\n -/0123456789^bcfl\xff"
SHORT = lines("length 12345", "fret 2^1/12", "course 3^-2 5", "bass 2^-1/3 7")
TEXTS = (
    SHORT,
    lines("length 100000", "fret 2^-3 3^2", "fret 2^-2 5", "course 2 7^-10/3", "course 1", "bass 3", "bass 5^12"),
    lines("length 60000", "fret 2^1/10 3^1/15", "course 2^1/15 3^-1/15 5^1/10", "bass 2^97/24"),
    lines("length 60000", "fret 2^99/2", "course 2^99/2", "course 2^-1/2 3^-49"),
)
# Pieces of intervals' texts, right and wrong, for texts put together by chance.
PIECES = ("1", "2", "3", "5", "7", "2^2", "3^-1", "5^1/2", "7^-2/3", "2^0", "3^1", "2^2/4", "2^99", "5^100", "7^1/25", " ", "^")


class TwoReadingsTest(unittest.TestCase):
    def check(self, text):
        self.assertEqual(answers(text), answers_of_second_reading(text), text)

    def test_each_byte_in_the_place_of_each(self):
        for place in range(len(SHORT)):
            for byte in range(256):
                self.check(SHORT[:place] + chr(byte) + SHORT[place + 1:])

    def test_a_byte_changed_put_in_left_out(self):
        for text in TEXTS:
            for place in range(len(text) + 1):
                self.check(text[:place])
                self.check(text[:place] + text[place + 1:])
                for sign in SIGNS:
                    self.check(text[:place] + sign + text[place + 1:])
                    self.check(text[:place] + sign + text[place:])
                    self.check(text[:place] + sign)

    def test_lines_by_chance(self):
        source = random.Random(7)
        for k in range(6000):
            told = ["length " + str(source.choice((60000, 10000, 200000, 60000, 200001)))]
            for word in ("fret", "course", "bass"):
                for j in range(source.choice((0, 1, 1, 2, 3))):
                    pieces = [source.choice(PIECES) for i in range(source.choice((1, 1, 1, 2, 3)))]
                    told.append(word + " " + source.choice((" ", " ", "")).join(pieces))
            if source.random() < 0.1:
                source.shuffle(told)
            text = lines(*told)
            self.check(text if source.random() < 0.9 else text[:source.randint(0, len(text))])

    def test_intervals_by_chance(self):
        source = random.Random(8)
        for k in range(20000):
            x = "".join([source.choice("012357  ^^--//1234") for j in range(source.randint(0, 9))])
            word = source.choice(("fret ", "course ", "course 1\nbass "))
            self.check("length 60000\n" + word + source.choice(("", "2^")) + x + source.choice(("", "\n")))


if __name__ == "__main__":
    unittest.main()
