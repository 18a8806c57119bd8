"""B1, the edges that the document names, on either side of each."""

import unittest

from gutfrets.instruments import judge, sizes
from helper import answers, as_bytes, fault_at, lines, write_interval

HEAD = "length 60000\n"
END = "course 1\n"
# Each wider than the one before; the last one is the octave.
FIFTEEN_FRETS = [
    "fret 2^-23/6 3^-17/24 5^7/8 7^25/24", "fret 2^1/24", "fret 2^1/13", "fret 2^1/12", "fret 2^1/6",
    "fret 2^1/4", "fret 2^1/3", "fret 2^5/12", "fret 2^1/2", "fret 2^7/12", "fret 2^2/3", "fret 2^3/4",
    "fret 2^5/6", "fret 2^11/12", "fret 2",
]


class EdgeTest(unittest.TestCase):
    def check(self, text, told):
        self.assertEqual(answers(text), told, text)

    def check_right(self, text, frets, courses, basses):
        self.check(text, [[courses + basses], [60000, frets, courses, basses]])


class LongTextTest(EdgeTest):
    def check_too_long(self, text):
        self.check(text, [[-2], [-2]])

    def test_most_bytes(self):
        right = HEAD + END
        self.check(right + "x" * (4096 - len(right)), fault_at(len(right)))
        self.check_too_long(right + "x" * (4097 - len(right)))
        self.check_too_long(right + "x" * (8192 - len(right)))

    def test_bytes_alone_are_counted(self):
        for byte in (0, 10, 32, 108, 255):
            self.assertEqual(judge([byte] * 4096)[0], -6)
            self.assertEqual(sizes([byte] * 4096), [-6])
            self.assertEqual(judge([byte] * 4097), [-2])
            self.assertEqual(sizes([byte] * 4097), [-2])
            self.assertEqual(sizes([byte] * 8192), [-2])

    def test_a_long_interval(self):
        text = HEAD + "course 2 3"
        self.check(text + "9" * (4096 - len(text)), fault_at(len(text)))
        text = HEAD + "course 2 3 5 7"
        self.check(text + " 7" * ((4096 - len(text)) // 2), fault_at(len(text) + 1))
        self.check("length " + "1" * 4089, fault_at(14))

    def test_the_longest_of_each_line(self):
        most = write_interval([-97, -97, -97, -97, 24])
        raising = write_interval([-97, -97, 97, 97, 24])
        strings = ["course " + most] + ["bass " + most] * 13
        self.check_right(HEAD + lines(*strings), 0, 1, 13)
        self.check_right(HEAD + lines("fret " + raising, "course 1"), 1, 1, 0)


class LengthTest(EdgeTest):
    def check_length(self, number, told):
        self.check(f"length {number}\n" + END, told)

    def test_bounds(self):
        for number in (10000, 10001, 99999, 100000, 199999, 200000):
            self.check_length(number, [[1], [number, 0, 1, 0]])
        for number in (1, 9, 99, 999, 9999, 200001, 200010, 300000, 999999, 1000000, 9999999):
            self.check_length(number, fault_at(7))

    def test_digits(self):
        self.check_length("1234567", fault_at(7))
        self.check_length("12345678", fault_at(14))
        self.check_length("100000000", fault_at(14))
        self.check("length 1234567", fault_at(7))
        self.check("length 12345678", fault_at(14))

    def test_begins_with_no_zero(self):
        for number in ("0", "00", "010000", "060000", "0000060000"):
            self.check_length(number, fault_at(7))

    def test_bounds_come_before_what_follows(self):
        self.check("length 9999x", fault_at(7))
        self.check("length 9999", fault_at(7))
        self.check("length 200001 \n", fault_at(7))
        self.check("length 60000x", fault_at(12))
        self.check("length 60000 \n", fault_at(12))
        self.check("length 60000", fault_at(12))

    def test_no_other_numbers(self):
        for number in ("", "-60000", "+60000", " 60000", "x"):
            self.check_length(number, fault_at(7))
        self.check_length("60000.5", fault_at(12))
        self.check_length("60,000", fault_at(7))


class CountTest(EdgeTest):
    def test_frets(self):
        self.check_right(HEAD + lines(*FIFTEEN_FRETS) + END, 15, 1, 0)
        self.check_right(HEAD + lines(*FIFTEEN_FRETS[:14]) + END, 14, 1, 0)

    def test_a_sixteenth_fret(self):
        text = HEAD + lines(*FIFTEEN_FRETS)
        for behind in ("fret 3\n" + END, "fret 3\n", "fret 3", "fret x", "fret 1", "fret ", "fretx", "fret\n", "fret"):
            self.check(text + behind, fault_at(len(text)))
        self.check(text + "fre", fault_at(len(text) + 3))
        self.check(text + "f", fault_at(len(text) + 1))
        self.check(text + "frets", fault_at(len(text)))
        self.check(text + "freT 3\n", fault_at(len(text) + 3))

    def test_courses(self):
        self.check_right(HEAD + END * 14, 0, 14, 0)
        self.check_right(HEAD + END * 13, 0, 13, 0)

    def test_a_fifteenth_course(self):
        text = HEAD + END * 14
        for behind in (END, "course 1", "course x", "course", "coursex"):
            self.check(text + behind, fault_at(len(text)))
        self.check(text + "cours", fault_at(len(text) + 5))
        self.check(text + "coursx", fault_at(len(text) + 5))

    def test_courses_and_basses(self):
        for courses in range(1, 15):
            text = HEAD + END * courses + "bass 1\n" * (14 - courses)
            self.check_right(text, 0, courses, 14 - courses)
            for behind in ("bass 1\n", "bass 1", "bass", "bass\n", "bassx", "bass x"):
                self.check(text + behind, fault_at(len(text)))
            self.check(text + "bas", fault_at(len(text) + 3))
            self.check(text + "baSs", fault_at(len(text) + 2))

    def test_frets_are_not_counted_with_courses(self):
        self.check_right(HEAD + lines(*FIFTEEN_FRETS) + END * 14, 15, 14, 0)
        self.check_right(HEAD + lines(*FIFTEEN_FRETS) + END + "bass 1\n" * 13, 15, 1, 13)


class FretTest(EdgeTest):
    def check_frets(self, frets, right):
        """Whether the last of the frets is wider, behind it 0AH, or the end, or nothing right."""
        before = HEAD + lines(*["fret " + x for x in frets[:-1]]) + "fret "
        if right:
            self.check_right(before + frets[-1] + "\n" + END, len(frets), 1, 0)
            self.check(before + frets[-1], fault_at(len(before + frets[-1])))
        else:
            self.check(before + frets[-1] + "\n" + END, fault_at(len(before)))
            self.check(before + frets[-1] + "\n\n", fault_at(len(before)))
            self.check(before + frets[-1], fault_at(len(before)))

    def test_the_first_fret(self):
        self.check_frets(["1"], False)
        self.check_frets(["2^-1/24"], False)
        self.check_frets(["2 3^-1"], False)
        self.check_frets(["2^1/24"], True)
        self.check_frets(["2^-1 3"], True)

    def test_the_first_fret_by_very_little(self):
        self.check_frets(["2^-23/6 3^-17/24 5^7/8 7^25/24"], True)
        self.check_frets(["2^23/6 3^17/24 5^-7/8 7^-25/24"], False)

    def test_a_fret_as_the_one_before(self):
        self.check_frets(["2^1/12", "2^1/12"], False)
        self.check_frets(["2^-3 3^2", "2^-3 3^2"], False)
        self.check_frets(["2^1/12", "1"], False)

    def test_a_fret_behind_another(self):
        self.check_frets(["2^1/12", "2^1/11"], True)
        self.check_frets(["2^1/11", "2^1/12"], False)
        self.check_frets(["2^1/12", "2^1/24"], False)
        self.check_frets(["2^1/12", "2^1/6", "2^1/8"], False)
        self.check_frets(["2^-4 3^4 5^-1", "2^-19 3^12"], True)
        self.check_frets(["2^-19 3^12", "2^-4 3^4 5^-1"], False)
        self.check_frets(["2^7/12", "2^-1 3"], True)
        self.check_frets(["2^-1 3", "2^7/12"], False)

    def test_a_fret_wider_by_less_than_a_float_can_tell(self):
        for wider, narrower in (
            ([-17, -87, -18, 80, 24], [-95, 6, -23, 59, 23]),
            ([3, -98, -23, 79, 23], [-79, -9, -30, 64, 24]),
        ):
            wider = write_interval(wider)
            narrower = write_interval(narrower)
            self.check_frets([narrower, wider], True)
            self.check_frets([wider, narrower], False)

    def test_the_widest_frets(self):
        self.check_frets(["2^99 3^99 5^99 7^98", "2^99 3^99 5^99 7^99"], True)
        self.check_frets(["2^99 3^99 5^99 7^99", "2^99 3^99 5^99 7^98"], False)

    def test_what_follows_one_is_looked_at_first(self):
        self.check(HEAD + "fret 1x", fault_at(len(HEAD) + 6))
        self.check(HEAD + "fret 1 2", fault_at(len(HEAD) + 6))
        self.check(HEAD + "fret 2^-1x", fault_at(len(HEAD) + 9))
        self.check(HEAD + "fret 2^-1 x", fault_at(len(HEAD) + 10))


class BoundsOfIntervalsTest(EdgeTest):
    def check_interval(self, x, right):
        for word in ("course", "bass"):
            before = HEAD + END + ("" if word == "course" else "bass 1\n") + word + " "
            if right:
                told = [2, 0] if word == "course" else [1, 2]
                self.check_right(before + x + "\n", 0, told[0], told[1])
            else:
                self.check(before + x + "\n", fault_at(len(before + x)))
                self.check(before + x, fault_at(len(before + x)))
        if not right:
            self.check(HEAD + "fret " + x + "\n", fault_at(len(HEAD + "fret " + x)))

    def test_powers(self):
        for digit in "2357":
            for power in ("2", "9", "10", "98", "99"):
                self.check_interval(f"{digit}^{power}", True)
                self.check_interval(f"{digit}^-{power}", True)
            for power in ("100", "101", "999", "1000", "9999"):
                self.check_interval(f"{digit}^{power}", False)
                self.check_interval(f"{digit}^-{power}", False)

    def test_divisors(self):
        for digit in "2357":
            for divisor in (2, 3, 9, 10, 12, 23, 24):
                self.check_interval(f"{digit}^1/{divisor}", True)
                self.check_interval(f"{digit}^-1/{divisor}", True)
            for divisor in (25, 26, 48, 99, 100, 999, 1000, 9999):
                self.check_interval(f"{digit}^1/{divisor}", False)
                self.check_interval(f"{digit}^-1/{divisor}", False)

    def test_powers_of_fractions(self):
        self.check_interval("2^99/2", True)
        self.check_interval("2^-97/24", True)
        self.check_interval("2^101/2", False)
        self.check_interval("2^-101/24", False)
        self.check_interval("2^9999/9998", False)

    def test_powers_by_the_common_divisor(self):
        self.check_interval("2^33 3^1/3", True)
        self.check_interval("2^34 3^1/3", False)
        self.check_interval("2^49/3 3^1/2", True)
        self.check_interval("2^50/3 3^1/2", False)
        self.check_interval("5^1/24 7^4", True)
        self.check_interval("5^1/24 7^5", False)
        self.check_interval("5^1/24 7^-5", False)

    def test_the_common_divisor(self):
        self.check_interval("2^1/3 3^1/8", True)
        self.check_interval("2^1/2 3^1/3 5^1/4 7^1/8", True)
        self.check_interval("2^1/6 3^1/8 5^1/12 7^1/24", True)
        self.check_interval("2^1/5 3^1/7", False)
        self.check_interval("2^1/2 3^1/3 5^1/5", False)
        self.check_interval("2^1/23 3^1/24", False)
        self.check_interval("2^1/9999 3^1/9998 5^1/9997 7^1/9995", False)


class CourseWithFretTest(EdgeTest):
    def check_course(self, frets, course, right):
        before = HEAD + lines(*["fret " + x for x in frets]) + "course "
        if right:
            self.check_right(before + course + "\n", len(frets), 1, 0)
            self.check_right(before + "1\ncourse " + course + "\n", len(frets), 2, 0)
        else:
            self.check(before + course + "\n", fault_at(len(before)))
            self.check(before + course, fault_at(len(before)))
            self.check(before + course + "\n\n", fault_at(len(before)))
            self.check(before + "1\ncourse " + course + "\n", fault_at(len(before + "1\ncourse ")))

    def test_a_power_out_of_its_bounds(self):
        self.check_course(["2"], "2^98", True)
        self.check_course(["2"], "2^99", False)
        self.check_course(["2^-1 3"], "2^-98", True)
        self.check_course(["2^-1 3"], "2^-99", False)
        self.check_course(["2^-1 3"], "3^99", False)
        self.check_course(["3^-2 5^2"], "5^97", True)
        self.check_course(["3^-2 5^2"], "5^98", False)
        self.check_course(["2^-2 7"], "7^99", False)

    def test_a_power_by_the_common_divisor(self):
        self.check_course(["3^1/2"], "2^49", True)
        self.check_course(["3^1/2"], "2^50", False)
        self.check_course(["2^1/24"], "3^4", True)
        self.check_course(["2^1/24"], "3^-5", False)

    def test_a_divisor_out_of_its_bounds(self):
        self.check_course(["2^1/3"], "2^1/8", True)
        self.check_course(["2^1/5"], "2^1/7", False)
        self.check_course(["2^1/5"], "3^1/5", True)
        self.check_course(["2^1/24"], "2^1/23", False)
        self.check_course(["2^1/9"], "7^1/4", False)

    def test_in_bounds_only_in_lowest_terms(self):
        self.check_course(["2^1/10"], "2^1/15", True)
        self.check_course(["2^1/10"], "3^1/15", False)
        self.check_course(["2^1/24"], "2^-1/24 3^2", True)
        self.check_course(["2^99/2"], "2^99/2", True)
        self.check_course(["2^99/2 3^1/2"], "2^49/2 3^-1/2", True)
        self.check_course(["2^99/2 3^1/2"], "2^47/2 3", False)

    def test_each_of_the_frets(self):
        self.check_course(["2^1/12", "2", "3^2"], "3^98", False)
        self.check_course(["2^1/5", "2^1/3", "2"], "2^1/3", True)
        self.check_course(["2^1/5", "2^1/3", "2"], "2^1/7", False)
        self.check_course(["2^1/7", "2^1/3", "2"], "2^1/5", False)
        self.check_course(["2^1/8", "2^1/7", "2"], "2^1/8", False)

    def test_no_frets_nothing_to_sound_with(self):
        self.check_course([], "2^99 3^-99", True)

    def test_a_bass_has_no_frets(self):
        self.check_right(HEAD + lines("fret 2^1/23", "course 1", "bass 2^99", "bass 3^1/24"), 1, 1, 2)

    def test_the_interval_is_looked_at_first(self):
        before = HEAD + lines("fret 2") + "course "
        self.check(before + "2^99 x", fault_at(len(before) + 5))
        self.check(before + "2^99x", fault_at(len(before) + 4))
        self.check(before + "2^100", fault_at(len(before) + 5))


if __name__ == "__main__":
    unittest.main()
