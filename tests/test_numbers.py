import unittest
from fractions import Fraction

from graftworth.errors import BadNumber, Malformed, NotNumber
from graftworth.numbers import (
    check_field, check_number, is_field, is_number, minus, number, number_text, over, plus, read_number, times,
)

PRIMES = [2, 3, 5, 7, 11, 13, 17, 19, 23, 29, 31]
FIELDS = [0] + PRIMES
NO_FIELDS = [-31, -7, -3, -2, -1, 1, 4, 6, 8, 9, 10, 15, 21, 25, 27, 30, 32, 33, 35, 37, 41, 43, 47, 53, 61, 97, 127]
LARGE = [2 ** 61, 2 ** 64 + 2, 10 ** 30 + 7, -10 ** 30, 10 ** 5000, -10 ** 5000]


def some_numbers(p):
    if p > 0:
        return [(rest, 1) for rest in range(p)]
    found = [Fraction(a, b) for a in range(-4, 5) for b in (1, 2, 3, 7)]
    found.extend([Fraction(10 ** 40 + 1, 3), Fraction(-7, 10 ** 40 + 9), Fraction(10 ** 50)])
    return [(x.numerator, x.denominator) for x in sorted(set(found))]


def no_numbers(p):
    if p > 0:
        return [(p, 1), (p + 1, 1), (-1, 1), (-p, 1), (0, 2), (1, 2), (1, 0), (1, -1), (0, 0), (10 ** 30, 1), (1, p + 1)]
    return [(2, 2), (0, 2), (0, 0), (1, 0), (-1, 0), (1, -1), (-1, -2), (0, -1), (4, 6), (-4, 6), (6, 3),
            (10 ** 40, 10 ** 20), (1, -10 ** 40)]


class Fields(unittest.TestCase):
    def test_those_that_are(self):
        for p in FIELDS:
            self.assertIs(is_field(p), True, p)
            self.assertIsNone(check_field(p))

    def test_those_that_are_none(self):
        for p in NO_FIELDS + LARGE:
            self.assertIs(is_field(p), False)
            self.assertRaises(BadNumber, check_field, p)

    def test_all_near_zero(self):
        self.assertEqual([p for p in range(-60, 200) if is_field(p)], FIELDS)


class WhatNumbersAre(unittest.TestCase):
    def test_fractions_in_lowest_terms(self):
        for a in range(-12, 13):
            for b in range(-6, 13):
                lowest = b > 0 and (Fraction(a, b).numerator, Fraction(a, b).denominator) == (a, b)
                self.assertIs(is_number(0, (a, b)), lowest, (a, b))

    def test_rests(self):
        for p in PRIMES:
            for a in range(-2 * p, 2 * p + 1):
                for b in range(-1, p + 2):
                    self.assertIs(is_number(p, (a, b)), b == 1 and a in range(p), (p, a, b))

    def test_check_number(self):
        for p in FIELDS:
            for x in some_numbers(p):
                self.assertIs(is_number(p, x), True)
                self.assertIsNone(check_number(p, x))
            for x in no_numbers(p):
                self.assertIs(is_number(p, x), False, (p, x))
                self.assertRaises(NotNumber, check_number, p, x)

    def test_large_ones(self):
        self.assertIs(is_number(0, (10 ** 40 + 1, 10 ** 40)), True)
        self.assertIs(is_number(0, (10 ** 5000, 7)), True)
        self.assertIs(is_number(0, (3 ** 200, 3)), False)
        self.assertIs(is_number(31, (31 ** 20, 1)), False)
        self.assertRaises(NotNumber, check_number, 0, (10 ** 5000, 10 ** 4999))

    def test_the_field_is_looked_at_first(self):
        for p in NO_FIELDS + LARGE:
            for x in [(1, 1), (2, 2), (1, 0)]:
                self.assertRaises(BadNumber, is_number, p, x)
                self.assertRaises(BadNumber, check_number, p, x)


class MakingNumbers(unittest.TestCase):
    def test_fractions(self):
        for a in range(-9, 10):
            for b in range(-9, 10):
                if b == 0:
                    self.assertRaises(BadNumber, number, 0, a, b)
                else:
                    self.assertEqual(number(0, a, b), (Fraction(a, b).numerator, Fraction(a, b).denominator))

    def test_rests(self):
        for p in PRIMES:
            for a in range(-p - 1, p + 2):
                for b in range(-p - 1, p + 2):
                    if b % p == 0:
                        self.assertRaises(BadNumber, number, p, a, b)
                    else:
                        fit = [rest for rest in range(p) if (rest * b - a) % p == 0]
                        self.assertEqual([number(p, a, b)], [(rest, 1) for rest in fit])

    def test_without_the_second_integer(self):
        for a in (-10 ** 40, -32, -1, 0, 1, 2, 31, 10 ** 40):
            self.assertEqual(number(0, a), (a, 1))
            for p in PRIMES:
                self.assertEqual(number(p, a), (a % p, 1))

    def test_large_ones(self):
        big = 10 ** 5000
        self.assertEqual(number(0, 6 * big, -4 * big), (-3, 2))
        self.assertEqual(number(0, -big, -3), (big, 3))
        self.assertEqual(number(7, big * 7 + 3, big * 7 + 1), (3, 1))
        self.assertEqual(number(31, -1, 31 * big - 1), (1, 1))
        self.assertRaises(BadNumber, number, 0, big, 0)
        self.assertRaises(BadNumber, number, 13, big, 13 * big)

    def test_zero_and_one(self):
        for p in FIELDS:
            self.assertEqual(number(p, 0), (0, 1))
            self.assertEqual(number(p, 0, -1), (0, 1))
            self.assertEqual(number(p, 1), (1, 1))
            self.assertEqual(number(p, -1, -1), (1, 1))

    def test_by_name(self):
        self.assertEqual(number(p=0, a=2, b=4), (1, 2))

    def test_no_field(self):
        for p in NO_FIELDS:
            self.assertRaises(BadNumber, number, p, 1, 1)
            self.assertRaises(BadNumber, number, p, 1)


class Reckoning(unittest.TestCase):
    def test_fractions(self):
        for x in some_numbers(0):
            for y in some_numbers(0):
                one, other = Fraction(*x), Fraction(*y)
                wanted = [(plus, one + other), (minus, one - other), (times, one * other)]
                if other != 0:
                    wanted.append((over, one / other))
                for function, due in wanted:
                    self.assertEqual(function(0, x, y), (due.numerator, due.denominator), (function, x, y))

    def test_rests(self):
        for p in PRIMES:
            for a in range(p):
                for b in range(p):
                    x, y = (a, 1), (b, 1)
                    self.assertEqual(plus(p, x, y), ((a + b) % p, 1))
                    self.assertEqual(minus(p, x, y), ((a - b) % p, 1))
                    self.assertEqual(times(p, x, y), (a * b % p, 1))

    def test_differences_and_quotients_lead_back(self):
        for p in FIELDS:
            for x in some_numbers(p):
                for y in some_numbers(p):
                    self.assertEqual(plus(p, minus(p, x, y), y), x)
                    self.assertEqual(minus(p, plus(p, x, y), y), x)
                    if y != (0, 1):
                        self.assertEqual(times(p, over(p, x, y), y), x)
                        self.assertEqual(over(p, times(p, x, y), y), x)

    def test_over_zero(self):
        for p in FIELDS:
            for x in some_numbers(p):
                self.assertRaises(BadNumber, over, p, x, (0, 1))

    def test_order_of_errors(self):
        for function in (plus, minus, times, over):
            for p in NO_FIELDS:
                self.assertRaises(BadNumber, function, p, (1, 1), (1, 1))
                self.assertRaises(BadNumber, function, p, (2, 2), (1, 0))
            for p in FIELDS:
                for wrong in no_numbers(p):
                    for right in some_numbers(p)[:4]:
                        self.assertRaises(NotNumber, function, p, wrong, right)
                        self.assertRaises(NotNumber, function, p, right, wrong)
                    self.assertRaises(NotNumber, function, p, wrong, wrong)
                    # A second number that is 0 is told only behind a first pair that is no number.
                    self.assertRaises(NotNumber, function, p, wrong, (0, 1))


class Texts(unittest.TestCase):
    def test_text(self):
        self.assertEqual(number_text(0, (3, 1)), "3")
        self.assertEqual(number_text(0, (-3, 1)), "-3")
        self.assertEqual(number_text(0, (0, 1)), "0")
        self.assertEqual(number_text(0, (-3, 20)), "-3/20")
        self.assertEqual(number_text(0, (1, 2)), "1/2")
        self.assertEqual(number_text(7, (6, 1)), "6")

    def test_read_is_the_inverse(self):
        for p in FIELDS:
            for x in some_numbers(p):
                word = str(x[0]) if x[1] == 1 else f"{x[0]}/{x[1]}"
                self.assertEqual(number_text(p, x), word)
                self.assertEqual(read_number(p, word), x)

    def test_text_of_large_ones(self):
        for whole in (10 ** 63, 10 ** 64 - 1, 10 ** 64, 10 ** 64 + 1, 10 ** 128 + 5, 7 * 10 ** 129, 3 ** 5000):
            self.assertEqual(number_text(0, (whole, 1)), str(whole))
            self.assertEqual(number_text(0, (-whole, 1)), str(-whole))

    def test_text_of_more_figures_than_python_writes(self):
        whole = 10 ** 6000 + 12
        word = "1" + "0" * 5998 + "12"
        self.assertEqual(number_text(0, (whole, 1)), word)
        self.assertEqual(number_text(0, (-whole, 1)), "-" + word)
        self.assertEqual(number_text(0, (1, whole)), "1/" + word)
        self.assertEqual(number_text(0, (-whole, 5)), "-" + word + "/5")

    def test_text_of_no_number(self):
        for p in FIELDS:
            for wrong in no_numbers(p):
                self.assertRaises(NotNumber, number_text, p, wrong)
        for p in NO_FIELDS:
            self.assertRaises(BadNumber, number_text, p, (2, 2))

    def malformed(self, p, word):
        with self.assertRaises(Malformed, msg=(p, word[:80])) as caught:
            read_number(p, word)
        self.assertEqual(caught.exception.at, 0)

    def test_texts_of_no_fraction(self):
        words = [
            "", " ", "-", "+", "/", "--1", "+1", "-0", "+0", "00", "01", "-01", "007", "1/1", "-1/1", "0/1", "0/2",
            "2/2", "4/6", "-4/6", "1/0", "0/0", "1/-2", "-1/-2", "1/+2", "1/02", "1/", "/2", "-/2", "1//2", "1/2/3",
            "1/2/", " 1", "1 ", "1 /2", "1/ 2", "1/2 ", "\t1", "1\n", "1/2\n", "1.0", "1.", "1e3", "1_0", "0x1", "a",
            "a/2", "2/a", "1,2", "(1, 1)", "1-", "1-2", "\u0661", "\u00b2", "1/\u0662", "\u22121", "1\x00",
        ]
        for word in words:
            self.malformed(0, word)

    def test_texts_of_no_rest(self):
        for p in PRIMES:
            for word in ["", "-1", "-0", "00", "01", "1/1", "1/2", "0/1", " 1", "1 ", "+1", str(p), str(p + 1), "\u0661",
                         f"-{p - 1}", "1" * 60, "1" * 61, "10000"]:
                self.malformed(p, word)

    def test_figures(self):
        most, more = "7" * 60, "7" * 61
        self.assertEqual(read_number(0, most), (int(most), 1))
        self.assertEqual(read_number(0, "-" + most), (-int(most), 1))
        self.assertEqual(read_number(0, "1/" + most), (1, int(most)))
        self.assertEqual(read_number(0, "1" + "0" * 59 + "/" + most), (10 ** 59, int(most)))
        self.assertEqual(read_number(0, "-1" + "0" * 59 + "/" + most), (-10 ** 59, int(most)))
        for word in [more, "-" + more, "1/" + more, more + "/2", "-" + more + "/2", "1" + "0" * 60, "0" * 61,
                     "1" * 5000, "1/" + "1" * 5000, "-" + "1" * 100000]:
            self.malformed(0, word)

    def test_no_field(self):
        for p in NO_FIELDS:
            self.assertRaises(BadNumber, read_number, p, "1")
            self.assertRaises(BadNumber, read_number, p, "")
