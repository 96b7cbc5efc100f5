"""Chapter 1: rational numbers."""

import random
import sys
import unittest
from fractions import Fraction

from integraph.errors import NoText, ZeroDivisor
from integraph.rational import (
    ONE, ZERO, format_integer, format_rational, is_rational, parse_digits, parse_rational,
    radd, rational, rcompare, rdiv, rfloor, rinv, rmul, rneg, rpow, rsign, rsub, rwhole)
from tests.helpers import ODD_VALUES, PureCase, nested

SMALL = sorted({Fraction(n, d) for n in range(-6, 7) for d in range(1, 5)})
LARGE = (Fraction(3 ** 400, 2 ** 700), Fraction(-(10 ** 300) - 1, 7 ** 200),
         Fraction(-(2 ** 1000)), Fraction(1, 5 ** 333))


def pair(fraction):
    return (fraction.numerator, fraction.denominator)


class Form(PureCase):
    def test_lowest_terms_and_signs(self):
        for n in range(-12, 13):
            for d in list(range(-12, 0)) + list(range(1, 13)):
                found = self.pure(rational, n, d)
                self.assertEqual(found, pair(Fraction(n, d)))
                self.assert_true(is_rational(found))

    def test_example_of_the_document(self):
        self.assertEqual(rational(6, -4), (-3, 2))

    def test_zero_and_one(self):
        self.assertEqual(ZERO, (0, 1))
        self.assertEqual(ONE, (1, 1))
        for d in (1, -1, 5, -(10 ** 50)):
            self.assertEqual(rational(0, d), (0, 1))

    def test_large_terms(self):
        self.assertEqual(rational(6 * 7 ** 5000, -4 * 7 ** 4999), (-21, 2))

    def test_zero_denominator(self):
        for n in (0, 1, -1, 10 ** 40):
            self.pure_raises(ZeroDivisor, rational, n, 0)

    def test_rationals_are_recognized(self):
        for value in SMALL + list(LARGE):
            self.assert_true(self.pure(is_rational, pair(value)))

    def test_other_values_are_not(self):
        for value in ODD_VALUES:
            self.assert_false(self.pure(is_rational, value))

    def test_other_forms_of_a_number_are_not(self):
        for value in ((2, 4), (-2, 4), (0, 3), (0, -1), (1, -2), (1, 0), (0, 0), (3, 3)):
            self.assert_false(is_rational(value))
        self.assert_false(is_rational((6 * 7 ** 500, 4)))

    def test_booleans_are_no_integers(self):
        for value in ((True, 1), (False, 1), (1, True), (True, True), (0, True), True, False):
            self.assert_false(is_rational(value))

    def test_nested_values_are_not(self):
        for outer in (tuple, list):
            self.assert_false(is_rational(nested(60, outer)))
        self.assert_false(is_rational(((1, 2), (1, 2))))
        self.assert_false(is_rational((((1, 2)), 1)))
        self.assert_false(is_rational([[1, 2]]))


class Sums(PureCase):
    def test_sums_differences_products(self):
        for a in SMALL[::2] + list(LARGE):
            for b in SMALL[1::2] + list(LARGE):
                one, two = pair(a), pair(b)
                self.assertEqual(self.pure(radd, one, two), pair(a + b))
                self.assertEqual(self.pure(rsub, one, two), pair(a - b))
                self.assertEqual(self.pure(rmul, one, two), pair(a * b))

    def test_negatives(self):
        for a in SMALL + list(LARGE):
            self.assertEqual(self.pure(rneg, pair(a)), pair(-a))

    def test_results_are_not_greater_than_the_usual_formulas_give(self):
        for a in SMALL:
            for b in SMALL:
                (n1, d1), (n2, d2) = pair(a), pair(b)
                n, d = radd((n1, d1), (n2, d2))
                self.assertLessEqual(abs(n), abs(n1 * d2 + n2 * d1))
                self.assertLessEqual(d, d1 * d2)
                n, d = rmul((n1, d1), (n2, d2))
                self.assertLessEqual(abs(n), abs(n1 * n2))
                self.assertLessEqual(d, d1 * d2)

    def test_a_number_less_itself_is_zero(self):
        for a in SMALL + list(LARGE):
            self.assertEqual(rsub(pair(a), pair(a)), ZERO)
            self.assertEqual(radd(pair(a), rneg(pair(a))), ZERO)


class Quotients(PureCase):
    def test_inverses(self):
        for a in SMALL + list(LARGE):
            if a != 0:
                self.assertEqual(self.pure(rinv, pair(a)), pair(1 / a))

    def test_quotients(self):
        for a in SMALL[::3] + list(LARGE):
            for b in SMALL[1::3] + list(LARGE):
                if b != 0:
                    self.assertEqual(self.pure(rdiv, pair(a), pair(b)), pair(a / b))

    def test_zero_has_no_inverse(self):
        self.pure_raises(ZeroDivisor, rinv, ZERO)

    def test_nothing_is_divided_by_zero(self):
        for a in (ZERO, ONE, (-3, 7)):
            self.pure_raises(ZeroDivisor, rdiv, a, ZERO)

    def test_zero_can_be_divided(self):
        self.assertEqual(rdiv(ZERO, (-3, 7)), ZERO)


class Powers(PureCase):
    def test_powers(self):
        for a in SMALL:
            for k in range(-5, 8):
                if a != 0 or k >= 0:
                    self.assertEqual(self.pure(rpow, pair(a), k), pair(a ** k))

    def test_the_power_zero_of_zero_is_one(self):
        self.assertEqual(rpow(ZERO, 0), ONE)

    def test_positive_powers_of_zero_are_zero(self):
        for k in (1, 2, 3, 100, 10 ** 30):
            self.assertEqual(rpow(ZERO, k), ZERO)

    def test_negative_powers_of_zero_are_refused(self):
        for k in (-1, -2, -(10 ** 30)):
            self.pure_raises(ZeroDivisor, rpow, ZERO, k)

    def test_great_powers(self):
        self.assertEqual(rpow((-3, 2), 1001), (-(3 ** 1001), 2 ** 1001))
        self.assertEqual(rpow((-3, 2), -1001), (-(2 ** 1001), 3 ** 1001))
        self.assertEqual(rpow((-1, 1), 10 ** 40 + 1), (-1, 1))
        self.assertEqual(rpow(ONE, -(10 ** 40)), ONE)


class Order(PureCase):
    def test_compare(self):
        numbers = SMALL + list(LARGE)
        for a in numbers:
            for b in numbers:
                expected = (a > b) - (a < b)
                self.assertEqual(self.pure(rcompare, pair(a), pair(b)), expected)

    def test_compare_close_numbers(self):
        a, b = (10 ** 60 + 1, 10 ** 60), (10 ** 60 + 2, 10 ** 60 + 1)
        self.assertEqual((rcompare(a, b), rcompare(b, a), rcompare(a, a)), (1, -1, 0))

    def test_sign(self):
        for a in SMALL + list(LARGE):
            self.assertEqual(self.pure(rsign, pair(a)), (a > 0) - (a < 0))

    def test_floor(self):
        for a in SMALL + list(LARGE):
            found = self.pure(rfloor, pair(a))
            self.assertTrue(found <= a < found + 1)

    def test_floor_below_zero(self):
        self.assertEqual(rfloor((-1, 2)), -1)
        self.assertEqual(rfloor((-7, 2)), -4)
        self.assertEqual(rfloor((-4, 1)), -4)
        self.assertEqual(rfloor((7, 2)), 3)
        self.assertEqual(rfloor(ZERO), 0)

    def test_whole(self):
        for a in SMALL + list(LARGE):
            found = self.pure(rwhole, pair(a))
            self.assertIs(found, a.denominator == 1)


class Written(PureCase):
    def setUp(self):
        # The tests compare with the digits that Python gives, of which it has a limit.
        self.addCleanup(sys.set_int_max_str_digits, sys.get_int_max_str_digits())

    def large_integers(self):
        chance = random.Random(17)
        found = [10 ** k + e for k in (499, 500, 501, 999, 1000, 1001, 2000, 4300, 10001)
                 for e in (-1, 0, 1)]
        found = found + [chance.randrange(10 ** k, 10 ** (k + 1)) for k in (700, 5000, 12345)]
        return found + [3 ** 25000, 2 ** 80000, 10 ** 20000 + 10 ** 500]

    def python_digits(self, n):
        sys.set_int_max_str_digits(0)
        text = str(n)
        sys.set_int_max_str_digits(4300)
        return text

    def test_small_integers(self):
        for n in list(range(-1100, 1101)) + [10 ** 30, -(10 ** 30)]:
            self.assertEqual(self.pure(format_integer, n), str(n))

    def test_large_integers(self):
        for n in self.large_integers():
            digits = self.python_digits(n)
            self.assertTrue(self.pure(format_integer, n) == digits)
            self.assertTrue(self.pure(format_integer, -n) == "-" + digits)
            self.assertTrue(self.pure(parse_digits, digits) == n)

    def test_large_integers_under_the_narrowest_limit_of_python(self):
        n = 7 ** 15000
        digits = self.python_digits(n)
        sys.set_int_max_str_digits(640)
        self.assertTrue(format_integer(n) == digits)
        self.assertTrue(parse_digits(digits) == n)

    def test_digits_with_leading_zeros(self):
        for text, n in (("0", 0), ("000", 0), ("007", 7), ("10", 10), ("0" * 30 + "12", 12)):
            self.assertEqual(self.pure(parse_digits, text), n)
        self.assertEqual(parse_digits("0" * 12000), 0)
        self.assertEqual(parse_digits("0" * 12000 + "305"), 305)
        self.assertTrue(parse_digits("0" * 700 + "1" + "0" * 11000) == 10 ** 11000)

    def test_digits_of_each_length(self):
        for size in list(range(1, 40)) + list(range(495, 506)) + list(range(995, 1006)):
            text = ("1234567890" * 101)[:size]
            self.assertEqual(self.pure(parse_digits, text), int(text))
            self.assertEqual(self.pure(format_integer, int(text)), text)

    def test_written_forms(self):
        for a, text in (((0, 1), "0"), ((5, 1), "5"), ((-5, 1), "-5"), ((3, 2), "3/2"),
                        ((-3, 2), "-3/2"), ((1, 10), "1/10"), ((-10, 1), "-10")):
            self.assertEqual(self.pure(format_rational, a), text)
            self.assertEqual(self.pure(parse_rational, text), a)

    def test_both_ways(self):
        for a in SMALL + list(LARGE):
            self.assertEqual(self.pure(format_rational, pair(a)), str(a))
            self.assertEqual(self.pure(parse_rational, str(a)), pair(a))

    def test_both_ways_for_large_rationals(self):
        three, two = 3 ** 22000, 2 ** 40000
        for n, d in ((three, two), (-three, two), (1, three), (-1, two), (-three, 1), (two, 1)):
            text = self.python_digits(n)
            if d != 1:
                text = text + "/" + self.python_digits(d)
            self.assertTrue(len(text) > 10000)
            self.assertTrue(self.pure(format_rational, (n, d)) == text)
            self.assertTrue(self.pure(parse_rational, text) == (n, d))


class NoWrittenForm(PureCase):
    def check(self, value):
        error = self.pure_raises(NoText, parse_rational, value)
        self.assertIs(type(error), NoText)
        self.assertEqual(error.at, 0)

    def test_texts(self):
        for text in ("", "-", "-0", "+1", "--1", "-+1", "01", "-01", "00", "000/1", "1-", "1-1",
                     "/", "1/", "/2", "-/2", "1//2", "1/2/3", "a", "x", "1a", "a/2", "1/b",
                     "0x1", "1e3", "1.5", "1_0", "1,0", "None", "True"):
            self.check(text)

    def test_quotients(self):
        for text in ("1/1", "-1/1", "0/1", "0/2", "-0/2", "2/4", "4/2", "-2/4", "6/3", "1/0",
                     "0/0", "-1/0", "1/-2", "-1/-2", "1/+2", "1/02", "01/2", "1/00", "1/-1",
                     "0/5", "5/5"):
            self.check(text)

    def test_spaces_and_line_feeds(self):
        for text in (" ", " 1", "1 ", "1 /2", "1/ 2", "- 1", "1/2 ", "\n", "1\n", "\n1", "1/2\n",
                     "1\n/2", "1/\n2", "-\n1", "1\t", "1\r", "\x001", "1\x00", "\u00a01"):
            self.check(text)

    def test_digits_that_are_not_0_to_9(self):
        for text in ("\u0661", "\u00b2", "\uff11", "1\u0662", "\u0661/2", "1/\u0662", "-\u0663",
                     "\u2460", "\u00bd", "\u2212" + "1", "1\u20442"):
            self.check(text)

    def test_large_texts(self):
        digits = "7" * 12000
        for text in ("0" + digits, "-0" + digits, "+" + digits, digits + " ", digits + "/1",
                     digits + "/" + digits, digits + "/0" + digits, "14/" + digits,
                     digits + "x"):
            self.check(text)

    def test_values_that_are_no_strings(self):
        for value in ODD_VALUES:
            if not isinstance(value, str):
                self.check(value)
        self.check(["1"])
        self.check(("1", "/", "2"))
        self.check((1, 2))
        for outer in (tuple, list):
            self.check(nested(60, outer))


if __name__ == "__main__":
    unittest.main()
