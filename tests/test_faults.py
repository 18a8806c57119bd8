"""B1, wrong inputs: where an instrument's text is at fault, but for what is within an interval's text."""

import unittest

from gutfrets.instruments import judge, sizes
from helper import answers, as_bytes, fault_at, lines

RIGHT = lines("length 12345", "fret 2^1/12", "course 3^-2", "bass 1")


class FaultTest(unittest.TestCase):
    def check(self, text, place):
        self.assertEqual(answers(text), fault_at(place), text)

    def test_the_empty_text(self):
        self.assertEqual(judge([]), [-6, 0])
        self.assertEqual(sizes([]), [-6])

    def test_a_text_that_ends_behind_each_byte(self):
        # A length still too short, a power 1 that is told, a divisor 1.
        others = {8: 7, 9: 7, 10: 7, 11: 7, 21: 18, 23: 18}
        for end in range(len(RIGHT)):
            if end == 37:
                self.assertEqual(answers(RIGHT[:end]), [[1], [12345, 1, 1, 0]])
            else:
                self.check(RIGHT[:end], others.get(end, end))
        self.assertEqual(answers(RIGHT), [[2], [12345, 1, 1, 1]])

    def test_a_wrong_byte_at_each_place(self):
        others = {8: 7, 9: 7, 10: 7, 11: 7, 21: 18, 23: 18}
        for wrong in "\0\xff#Q\r":
            for place in range(len(RIGHT)):
                self.check(RIGHT[:place] + wrong + RIGHT[place + 1:], others.get(place, place))

    def test_a_byte_too_many_at_the_end(self):
        for wrong in ("\n", " ", "x", "l", "f", "c", "\0"):
            self.check(RIGHT + wrong, len(RIGHT))
        self.check(RIGHT + "b", len(RIGHT) + 1)

    def test_the_first_line(self):
        for text in ("fret 2\n", "course 1\n", "bass 1\n", "\n", " length 60000\n", "Length 60000\n", "x"):
            self.check(text, 0)
        self.check("length60000\n", 6)
        self.check("length\n", 6)
        self.check("length  60000\n", 7)
        self.check("length\t60000\n", 6)
        self.check("lengths 60000\n", 6)
        self.check("length \n", 7)
        self.check("length 60000\r\n", 12)

    def test_no_course(self):
        self.check("length 60000\n", 13)
        self.check("length 60000\nfret 2\n", 20)
        self.check("length 60000\nfret 2\nfret 3\n", 27)

    def test_lines_in_the_wrong_order(self):
        self.check("length 60000\nbass 1\ncourse 1\n", 13)
        self.check("length 60000\nfret 2\nbass 1\ncourse 1\n", 20)
        self.check("length 60000\ncourse 1\nfret 2\n", 22)
        self.check("length 60000\ncourse 1\nbass 1\nfret 2\n", 29)
        self.check("length 60000\ncourse 1\nbass 1\ncourse 1\n", 29)
        self.check("fret 2\nlength 60000\ncourse 1\n", 0)
        self.check("course 1\nlength 60000\n", 0)

    def test_a_second_length(self):
        self.check("length 60000\nlength 60000\ncourse 1\n", 13)
        self.check("length 60000\nfret 2\nlength 60000\ncourse 1\n", 20)
        self.check("length 60000\ncourse 1\nlength 60000\n", 22)
        self.check("length 60000\ncourse 1\nbass 1\nlength 60000\n", 29)

    def test_empty_lines_and_other_words(self):
        for behind in ("\n", " fret 2\n", "string 1\n", "FRET 2\n", "# a remark\n", "2\n"):
            self.check("length 60000\n" + behind + "course 1\n", 13)
            self.check("length 60000\ncourse 1\n" + behind, 22)

    def test_the_rest_of_each_word_must_follow(self):
        for word in ("fret", "course", "bass"):
            start = "length 60000\n" + ("course 1\n" if word == "bass" else "")
            for k in range(1, len(word)):
                self.check(start + word[:k], len(start) + k)
                self.check(start + word[:k] + "\n", len(start) + k)
                self.check(start + word[:k] + word[k].upper() + word[k + 1:] + " 2\n", len(start) + k)
            for behind in ("", "\n", "s 2\n", "\t2\n", "2\n"):
                self.check(start + word + behind, len(start + word))
            for behind in ("", "\n", " 2\n", "x\n"):
                self.check(start + word + " " + behind, len(start + word) + 1)

    def test_a_line_feed_must_follow_each_line(self):
        self.check("length 60000 course 1\n", 12)
        self.check("length 60000\ncourse 1", 21)
        self.check("length 60000\ncourse 2^2", 23)
        self.check("length 60000\ncourse 1\nbass 2", 28)
        self.check("length 60000\nfret 2 course 1\n", 20)
        self.check("length 60000\nfret 2\r\ncourse 1\n", 19)
        self.check("length 60000\nfret 2", 19)

    def test_of_two_faults_the_first(self):
        self.check("length 9\nfret 1\n", 7)
        self.check("length 60000\nfret 1\nfret x\n", 18)
        self.check("length 60000\nfret 2^0\nfret 1\n", 18)
        self.check("length 60000\nfret 2\ncourse 2^99\nlength", 27)
        self.check("length 60000\ncourse 2 2\nfret 2\n", 22)

    def test_a_fault_far_within(self):
        start = lines("length 60000", "fret 2^1/12", "fret 2^1/6", "course 3", "course 2^-1 3^2", "bass 5^-1")
        self.check(start + "bass 2^3/6\n", len(start) + 5)
        self.check(start + "bass 2^100\n", len(start) + 10)
        self.check(start + "bass 2^x\n", len(start) + 7)

    def test_sizes_tells_no_place(self):
        for text in ("", "length 9\n", "length 60000\n", "length 60000\nfret 1\n"):
            self.assertEqual(sizes(as_bytes(text)), [-6])


if __name__ == "__main__":
    unittest.main()
