"""B1, wrong inputs: where an interval's text is at fault, in each kind of line, ended by 0AH and by the text's end."""

import unittest

from helper import answers, fault_at

STARTS = (
    "length 60000\nfret ",
    "length 60000\nfret 2^1/24\nfret ",
    "length 60000\ncourse ",
    "length 60000\nfret 2^1/24\ncourse 1\ncourse ",
    "length 60000\ncourse 1\nbass ",
    "length 60000\ncourse 1\nbass 2\nbass ",
)


class IntervalCase(unittest.TestCase):
    def check(self, x, place):
        for start in STARTS:
            for behind in ("\n", "", "\ncourse 1\n", "\n\n", "\nlength 60000\n"):
                text = start + x + behind
                self.assertEqual(answers(text), fault_at(len(start) + place), text)


class IntervalFaultTest(IntervalCase):
    def test_more_must_come(self):
        for x in ("", "2^", "2^-", "2 ", "2^2 ", "2^1/", "2^-1/", "2^1/2 ", "2 3 5 ", "2 3^", "2 3^-", "2 3^2/"):
            self.check(x, len(x))

    def test_a_byte_that_can_not_begin_a_factor(self):
        for sign in "04689 ^-/x\0\t\r\x7f\x80\xb2\xff":
            self.check(sign, 0)
            self.check(sign + "2", 0)
            self.check("2 " + sign, 2)
            self.check("2^-1 3^1/2 " + sign, 11)
        self.check("2 1", 2)
        self.check("2^2 1", 4)

    def test_a_byte_that_can_not_follow_a_digit_alone(self):
        for sign in "0123456789-/x\0\t\r\xff":
            self.check("3" + sign, 1)
            self.check("2 3" + sign, 3)
            self.check("2 3" + sign + " 5", 3)

    def test_a_byte_that_can_not_begin_a_power(self):
        for sign in " ^/+x\0\xff":
            self.check("2^" + sign, 2)
            self.check("2^" + sign + "2", 2)
            self.check("2 3^" + sign, 4)

    def test_a_byte_that_can_not_follow_a_minus_sign(self):
        for sign in " ^-/+0x\0\xff":
            self.check("2^-" + sign, 3)
            self.check("2^-" + sign + "1", 3)
        self.check("2^-0/2", 3)
        self.check("2^-00", 3)

    def test_a_byte_that_can_not_follow_a_whole_power(self):
        for sign in "^-+x.\0\xff":
            self.check("2^2" + sign, 3)
            self.check("2^-1" + sign, 4)
            self.check("2^-99" + sign + " 3", 5)

    def test_a_byte_that_can_not_begin_a_divisor(self):
        for sign in " ^-/+x\0\xff":
            self.check("2^1/" + sign, 4)
            self.check("2^-1/" + sign + "2", 5)

    def test_a_byte_that_can_not_follow_a_fraction(self):
        for sign in "^-/+x\0\xff":
            self.check("2^1/2" + sign, 5)
            self.check("2^-1/24" + sign + "2", 7)

    def test_two_blanks(self):
        self.check("2  3", 2)
        self.check("2^-1  3", 5)

    def test_a_fifth_digit(self):
        self.check("2^12345", 6)
        self.check("2^-12345", 7)
        self.check("2^1/12345", 8)
        self.check("2^-1/12345", 9)
        self.check("2^99999999/2", 6)
        self.check("2 3^12345", 8)
        self.check("2^10000", 6)

    def test_four_digits_may_stand(self):
        self.check("2^1234", 6)
        self.check("2^-1234", 7)
        self.check("2^1/1234", 8)
        self.check("2^1234x", 6)
        self.check("2^1234/", 7)
        self.check("2^1234/1235", 11)
        self.check("2^1234 ", 7)

    def test_a_digit_behind_a_zero(self):
        self.check("2^00", 3)
        self.check("2^01", 3)
        self.check("2^02/3", 3)
        self.check("2^1/00", 5)
        self.check("2^1/02", 5)
        self.check("2^-1/024", 6)

    def test_a_zero_within_a_number_may_stand(self):
        self.check("2^101", 5)
        self.check("2^100/", 6)
        self.check("2^1/20x", 6)

    def test_behind_one_nothing_can_stand(self):
        for sign in "01239 ^-/x\0\xff":
            self.check("1" + sign, 1)
            self.check("1" + sign + "2", 1)

    def test_a_factor_not_above_the_one_before(self):
        self.check("2 2", 2)
        self.check("3 2", 2)
        self.check("7 5", 2)
        self.check("2^2 2^3", 4)
        self.check("2 3 5 7 7", 8)
        self.check("2 5^1/2 3^1/2", 8)
        self.check("2 7 3 5", 4)
        self.check("2^1/2 3^-1/2 3^1/2", 13)

    def test_a_power_zero(self):
        self.check("2^0", 0)
        self.check("2 3^0", 2)
        self.check("2^0 3", 0)
        self.check("2^0/2", 0)
        self.check("2^0/1", 0)
        self.check("2^0/0", 0)

    def test_a_power_told_though_it_is_one(self):
        self.check("2^1", 0)
        self.check("3^2 5^1 7", 4)
        self.check("2^1/1", 0)
        self.check("2^7/7", 0)
        self.check("2^9999/9999", 0)

    def test_a_fraction_not_in_lowest_terms(self):
        self.check("2^2/4", 0)
        self.check("2^-2/4", 0)
        self.check("2^6/9", 0)
        self.check("2^24/12", 0)
        self.check("2 3^12/2", 2)
        self.check("2^9998/9996", 0)
        self.check("2^-99/33 3", 0)

    def test_a_divisor_zero_or_one(self):
        self.check("2^1/0", 0)
        self.check("2^3/0", 0)
        self.check("2^-3/0", 0)
        self.check("2^3/1", 0)
        self.check("2^-3/1", 0)
        self.check("2 3^3/1 5", 2)

    def test_no_interval_in_the_end(self):
        for x in ("2^100", "2^-100", "2^1/25", "2^34 3^1/3", "2^1/5 3^1/7", "2 3^9999", "2^100 3^-100 5^100 7^100"):
            self.check(x, len(x))


class WhichComesFirstTest(IntervalCase):
    def test_a_factor_is_looked_at_before_what_follows(self):
        for behind in ("x", "^", "/", " x", " 1", "  ", " ", " 2", " 3^0", "\0"):
            self.check("2^2/4" + behind, 0)
            self.check("2^3/1" + behind, 0)
        for behind in ("x", "^", "-", " x", " 1", "  ", " ", " 2", " 3^0", "\0"):
            self.check("2^1" + behind, 0)
            self.check("2^0" + behind, 0)
        for behind in ("x", "/", "1", "-", " x", " ", " 7", "\0"):
            self.check("5 3" + behind, 2)
            self.check("3 3" + behind, 2)

    def test_a_factor_is_looked_at_when_it_stands_whole(self):
        self.check("3 2^", 4)
        self.check("3 2^x", 4)
        self.check("3 2^-", 5)
        self.check("3 2^-0", 5)
        self.check("3 2^01", 5)
        self.check("3 2^2/", 6)
        self.check("3 2^2/x", 6)
        self.check("3 2^12345", 8)
        self.check("3 2^2x", 2)
        self.check("2^1/", 4)
        self.check("2^1/x", 4)
        self.check("2^0/", 4)
        self.check("2^0/x", 4)
        self.check("2^1/12345", 8)
        self.check("2^2/40000", 8)
        self.check("2^2/00", 5)

    def test_of_two_factors_the_first(self):
        self.check("2^0 2^0", 0)
        self.check("5 3^0 2", 2)
        self.check("2 3^2/2 2", 2)

    def test_no_interval_is_looked_at_last(self):
        self.check("2^100 2", 6)
        self.check("2^100 x", 6)
        self.check("2^100x", 5)
        self.check("2^100 3^1", 6)
        self.check("2^1/25 ", 7)


if __name__ == "__main__":
    unittest.main()
