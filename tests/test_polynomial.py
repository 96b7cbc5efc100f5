"""Chapter 3: polynomials over a field, points 3.2 to 3.4.

Each test runs over the small fields that the tests bring, and over those of integraph.field.
"""

import random
import unittest
from fractions import Fraction

from integraph.errors import ZeroDivisor
from integraph.field import RationalFunctions, Rationals
from integraph.polynomial import (
    constant, degree, is_polynomial, last, monomial, padd, pcompose, pdivide, pformal, pmonic,
    pmul, pneg, ppow, pquotient, pscale, psub, pvalue, trim)
from tests.fields import SmallFunctions, SmallRationals
from tests.helpers import ODD_VALUES, PureCase, nested

RATIONALS = SmallRationals()
FUNCTIONS = SmallFunctions()
X = FUNCTIONS.variable()

LEVELS = [Rationals()]
for _ in range(5):
    LEVELS.append(RationalFunctions(LEVELS[-1]))


def q(*numbers):
    """Returns the polynomial over the rationals with these coefficients, the last not zero."""
    return tuple((Fraction(n).numerator, Fraction(n).denominator) for n in numbers)


def items(field):
    """Returns some elements of a field, zero first and then one."""
    found = [field.zero(), field.one()]
    for n, d in ((-1, 1), (2, 1), (-3, 4), (10 ** 30, 7)):
        found.append(field.rational((n, d)))
    if field.level() > 0:
        two = field.rational((2, 1))
        t = field.variable()
        found = found + [t, field.inverse(t), field.add(field.multiply(t, t), two),
                         field.divide(field.subtract(t, two), field.add(t, two))]
    if field.level() > 1:
        x = field.lift(field.base.variable())
        found = found + [x, field.inverse(field.subtract(t, x))]
    return found


def cut(field, p):
    p = list(p)
    while p and field.is_zero(p[-1]):
        p.pop()
    return tuple(p)


def polynomials(field, count=9):
    """Returns some polynomials of degrees from -1 to 5."""
    chance = random.Random(23)
    some = items(field)
    found = [(), (field.one(),), (some[2],), (field.zero(), field.one()), (some[-1], some[3])]
    found.append((field.zero(), field.zero(), some[-1]))
    while len(found) < count:
        size = chance.randint(1, 5)
        found.append(cut(field, [chance.choice(some[:4] + some[6:]) for _ in range(size)]))
    return found


def plain_sum(field, p, q_):
    size = max(len(p), len(q_))
    fill = [field.zero()] * size
    return cut(field, [field.add(a, b) for a, b in
                       zip((list(p) + fill)[:size], (list(q_) + fill)[:size])])


def plain_product(field, p, q_):
    found = {}
    for i, a in enumerate(p):
        for j, b in enumerate(q_):
            found[i + j] = field.add(found.get(i + j, field.zero()), field.multiply(a, b))
    return cut(field, [found[k] for k in sorted(found)])


class BothFields(PureCase):
    def each(self, count=9):
        for field in [RATIONALS, FUNCTIONS] + LEVELS[:3]:
            yield field, polynomials(field, count)

    def assert_polynomial(self, field, value):
        self.assertIs(type(value), tuple)
        for item in value:
            self.assertTrue(field.is_element(item))
        self.assertTrue(value == () or value[-1] != field.zero())


class Form(BothFields):
    def test_trim_takes_tuples_and_lists(self):
        for field, found in self.each():
            for p in found:
                for zeros in range(4):
                    longer = p + (field.zero(),) * zeros
                    self.assertEqual(self.pure(trim, field, longer), p)
                    self.assertEqual(self.pure(trim, field, list(longer)), p)

    def test_trim_of_nothing_and_of_zeros(self):
        for field, _ in self.each():
            for size in range(4):
                self.assertEqual(self.pure(trim, field, (field.zero(),) * size), ())
                self.assertEqual(self.pure(trim, field, [field.zero()] * size), ())

    def test_trim_keeps_other_zeros(self):
        for field, _ in self.each():
            p = (field.zero(), field.one(), field.zero(), field.one())
            self.assertEqual(trim(field, p), p)
            self.assertEqual(trim(field, list(p) + [field.zero()]), p)

    def test_trim_does_not_change_a_list(self):
        given = [(1, 1), (0, 1), (0, 1)]
        self.assertEqual(trim(RATIONALS, given), ((1, 1),))
        self.assertEqual(given, [(1, 1), (0, 1), (0, 1)])

    def test_degree(self):
        self.assertEqual(self.pure(degree, ()), -1)
        self.assertEqual(self.pure(degree, q(5)), 0)
        self.assertEqual(self.pure(degree, q(0, 0, 5)), 2)
        self.assertEqual(self.pure(degree, (FUNCTIONS.zero(), X)), 1)

    def test_last(self):
        self.assertEqual(self.pure(last, q(5)), (5, 1))
        self.assertEqual(self.pure(last, q(1, 2, 3)), (3, 1))
        self.assertEqual(self.pure(last, (FUNCTIONS.zero(), X)), X)

    def test_zero_has_no_last_element(self):
        self.pure_raises(ZeroDivisor, last, ())

    def test_constant(self):
        for field, _ in self.each():
            self.assertEqual(self.pure(constant, field, field.zero()), ())
            for e in items(field)[1:]:
                self.assertEqual(self.pure(constant, field, e), (e,))

    def test_monomial(self):
        for field, _ in self.each():
            for k in range(5):
                self.assertEqual(self.pure(monomial, field, field.zero(), k), ())
                for e in items(field)[1:]:
                    expected = (field.zero(),) * k + (e,)
                    self.assertEqual(self.pure(monomial, field, e, k), expected)


class Sums(BothFields):
    def test_sums_differences_products(self):
        for field, found in self.each():
            for p in found:
                for r in found:
                    minus = tuple(field.negative(a) for a in r)
                    self.assertEqual(self.pure(padd, field, p, r), plain_sum(field, p, r))
                    self.assertEqual(self.pure(psub, field, p, r), plain_sum(field, p, minus))
                    self.assertEqual(self.pure(pmul, field, p, r), plain_product(field, p, r))

    def test_negatives(self):
        for field, found in self.each():
            for p in found:
                self.assertEqual(self.pure(pneg, field, p), tuple(field.negative(a) for a in p))

    def test_equal_last_elements_cancel(self):
        self.assertEqual(padd(RATIONALS, q(1, 2, 3), q(1, -2, -3)), q(2))
        self.assertEqual(psub(RATIONALS, q(1, 2, 3), q(0, 2, 3)), q(1))
        for field, found in self.each():
            for p in found:
                self.assertEqual(psub(field, p, p), ())
                self.assertEqual(padd(field, p, pneg(field, p)), ())

    def test_the_zero_polynomial(self):
        for field, found in self.each():
            for p in found:
                self.assertEqual((padd(field, p, ()), padd(field, (), p)), (p, p))
                self.assertEqual(psub(field, p, ()), p)
                self.assertEqual(psub(field, (), p), pneg(field, p))
                self.assertEqual((pmul(field, p, ()), pmul(field, (), p)), ((), ()))
            self.assertEqual((pneg(field, ()), pformal(field, ())), ((), ()))

    def test_scale(self):
        for field, found in self.each():
            for p in found:
                self.assertEqual(self.pure(pscale, field, p, field.zero()), ())
                for e in items(field)[1:]:
                    expected = tuple(field.multiply(a, e) for a in p)
                    self.assertEqual(self.pure(pscale, field, p, e), expected)

    def test_known_products(self):
        self.assertEqual(pmul(RATIONALS, q(-1, 1), q(1, 1)), q(-1, 0, 1))
        self.assertEqual(pmul(RATIONALS, q(Fraction(1, 2), 2), q(4, 0, 1)),
                         q(2, 8, Fraction(1, 2), 2))
        minus = FUNCTIONS.negative(X)
        self.assertEqual(pmul(FUNCTIONS, (X, FUNCTIONS.one()), (minus, FUNCTIONS.one())),
                         (FUNCTIONS.negative(FUNCTIONS.multiply(X, X)), FUNCTIONS.zero(),
                          FUNCTIONS.one()))


class Powers(BothFields):
    def test_powers(self):
        for field, found in self.each():
            for p in found:
                expected = (field.one(),)
                for k in range(6):
                    self.assertEqual(self.pure(ppow, field, p, k), expected)
                    expected = plain_product(field, expected, p)

    def test_the_power_zero(self):
        for field, found in self.each():
            for p in found:
                self.assertEqual(ppow(field, p, 0), (field.one(),))

    def test_powers_of_zero(self):
        for field, _ in self.each():
            self.assertEqual(ppow(field, (), 0), (field.one(),))
            for k in (1, 2, 7, 10 ** 20):
                self.assertEqual(ppow(field, (), k), ())

    def test_great_powers(self):
        self.assertEqual(ppow(RATIONALS, q(0, 1), 300), q(*([0] * 300 + [1])))
        self.assertEqual(ppow(RATIONALS, q(-1), 10 ** 30 + 1), q(-1))
        self.assertEqual(sum(n for n, _ in ppow(RATIONALS, q(1, 1), 41)), 2 ** 41)


class Division(BothFields):
    def test_quotient_and_remainder(self):
        for field, found in self.each(14):
            for p in found:
                for r in found:
                    if r == ():
                        continue
                    quotient, rest = self.pure(pdivide, field, p, r)
                    self.assert_polynomial(field, quotient)
                    self.assert_polynomial(field, rest)
                    self.assertLess(len(rest), len(r))
                    whole = plain_sum(field, plain_product(field, quotient, r), rest)
                    self.assertEqual(whole, p)

    def test_known_quotients(self):
        self.assertEqual(pdivide(RATIONALS, q(1, 0, 0, 2), q(1, 1)), (q(2, -2, 2), q(-1)))
        self.assertEqual(pdivide(RATIONALS, q(1, 2), q(0, 0, 3)), ((), q(1, 2)))
        self.assertEqual(pdivide(RATIONALS, q(1, 2), q(4)),
                         (q(Fraction(1, 4), Fraction(1, 2)), ()))
        self.assertEqual(pdivide(RATIONALS, (), q(1, 1)), ((), ()))
        one = FUNCTIONS.one()
        self.assertEqual(pdivide(FUNCTIONS, (FUNCTIONS.zero(), one), (X, X)),
                         ((FUNCTIONS.inverse(X),), (FUNCTIONS.rational((-1, 1)),)))

    def test_division_by_zero(self):
        for field, found in self.each():
            for p in found:
                self.pure_raises(ZeroDivisor, pdivide, field, p, ())

    def test_quotients_of_multiples(self):
        for field, found in self.each(12):
            for p in found:
                for r in found:
                    if r != ():
                        product = plain_product(field, p, r)
                        self.assertEqual(self.pure(pquotient, field, product, r), p)

    def test_quotients_of_others(self):
        for field, found in self.each(12):
            for p in found:
                for r in found:
                    if r != ():
                        quotient, rest = pdivide(field, p, r)
                        expected = quotient if rest == () else None
                        self.assertEqual(self.pure(pquotient, field, p, r), expected)
        self.assertIsNone(pquotient(RATIONALS, q(1, 1), q(0, 1)))
        self.assertIsNone(pquotient(RATIONALS, q(1), q(0, 1)))
        self.assertEqual(pquotient(RATIONALS, (), q(0, 1)), ())

    def test_zero_divides_nothing_here(self):
        for field, found in self.each():
            for p in found:
                self.assertIsNone(self.pure(pquotient, field, p, ()))
            self.assertIsNone(pquotient(field, (), ()))

    def test_monic(self):
        for field, found in self.each(12):
            for p in found:
                monic = self.pure(pmonic, field, p)
                if p == ():
                    self.assertEqual(monic, ())
                else:
                    self.assertEqual(monic[-1], field.one())
                    self.assertEqual(tuple(field.multiply(a, p[-1]) for a in monic), p)
        self.assertEqual(pmonic(RATIONALS, q(3, -2)), q(Fraction(-3, 2), 1))


class Values(BothFields):
    def test_formal_derivatives(self):
        self.assertEqual(pformal(RATIONALS, q(7, 5, Fraction(1, 2), 2)), q(5, 1, 6))
        for field, found in self.each(12):
            for p in found:
                expected = tuple(field.multiply(field.rational((k, 1)), p[k])
                                 for k in range(1, len(p)))
                self.assertEqual(self.pure(pformal, field, p), expected)

    def test_the_formal_derivative_of_a_constant_is_zero(self):
        for field, _ in self.each():
            self.assertEqual(pformal(field, ()), ())
            for e in items(field)[1:]:
                self.assertEqual(pformal(field, (e,)), ())

    def test_coefficients_are_constants_of_the_formal_derivative(self):
        self.assertEqual(pformal(FUNCTIONS, (X, X)), (X,))

    def test_values(self):
        for field, found in self.each(12):
            for p in found:
                for e in items(field):
                    expected = field.zero()
                    for k, a in enumerate(p):
                        expected = field.add(expected, field.multiply(a, field.power(e, k)))
                    self.assertEqual(self.pure(pvalue, field, p, e), expected)

    def test_the_value_of_zero_is_zero(self):
        for field, _ in self.each():
            for e in items(field):
                self.assertEqual(pvalue(field, (), e), field.zero())

    def test_the_value_at_zero_is_the_constant(self):
        self.assertEqual(pvalue(RATIONALS, q(7, 1, 1), (0, 1)), (7, 1))
        self.assertEqual(pvalue(RATIONALS, q(0, 1, 1), (0, 1)), (0, 1))

    def test_compositions(self):
        for field, found in self.each(10):
            for p in found:
                for r in found:
                    expected = ()
                    power = (field.one(),)
                    for a in p:
                        expected = plain_sum(field, expected, plain_product(field, (a,), power))
                        power = plain_product(field, power, r)
                    self.assertEqual(self.pure(pcompose, field, p, r), expected)

    def test_known_compositions(self):
        self.assertEqual(pcompose(RATIONALS, q(0, 0, 1), q(1, 1)), q(1, 2, 1))
        self.assertEqual(pcompose(RATIONALS, q(5, 1, 1), ()), q(5))
        self.assertEqual(pcompose(RATIONALS, q(0, 1, 1), ()), ())
        self.assertEqual(pcompose(RATIONALS, q(-1, 1), q(1)), ())
        self.assertEqual(pcompose(RATIONALS, (), q(1, 1)), ())
        self.assertEqual(pcompose(RATIONALS, q(3, 4), q(0, 1)), q(3, 4))


class Recognized(BothFields):
    def test_polynomials(self):
        for field, found in self.each(14):
            for p in found:
                self.assert_true(self.pure(is_polynomial, field, p))

    def test_the_zero_polynomial(self):
        for field, _ in self.each():
            self.assert_true(is_polynomial(field, ()))

    def test_a_zero_at_the_end(self):
        for field, found in self.each():
            for p in found:
                self.assert_false(self.pure(is_polynomial, field, p + (field.zero(),)))

    def test_zeros_elsewhere(self):
        for field, _ in self.each():
            p = (field.zero(), field.zero(), field.one())
            self.assert_true(is_polynomial(field, p))

    def test_lists(self):
        for field, found in self.each():
            for p in found:
                self.assert_false(self.pure(is_polynomial, field, list(p)))
                if p:
                    self.assert_false(is_polynomial(field, tuple(list(item) for item in p)))

    def test_items_that_are_no_elements(self):
        for field, _ in self.each():
            for value in ODD_VALUES:
                if not field.is_element(value):
                    self.assert_false(self.pure(is_polynomial, field, (value,)))
                    self.assert_false(is_polynomial(field, (value, field.one())))
                    self.assert_false(is_polynomial(field, (field.one(), value, field.one())))

    def test_items_of_another_field(self):
        self.assert_false(is_polynomial(RATIONALS, (X,)))
        self.assert_false(is_polynomial(FUNCTIONS, q(1, 2)))
        self.assert_false(is_polynomial(RATIONALS, ((2, 4),)))
        self.assert_false(is_polynomial(FUNCTIONS, (X, (q(0, 2), q(2)))))
        self.assert_false(is_polynomial(FUNCTIONS, ((q(0, 1), q(0, 1)),)))

    def test_every_other_value(self):
        for field, _ in self.each():
            for value in ODD_VALUES:
                expected = value == () or value == ((1, 1), (2, 1)) and field.level() == 0
                self.assertIs(self.pure(is_polynomial, field, value), expected)
            for outer in (tuple, list):
                self.assert_false(is_polynomial(field, nested(60, outer)))


class EveryLevel(PureCase):
    """The functions over the fields of level 0 to 5, with elements of all their levels."""

    def elements(self, field):
        found = [field.rational((2, 3))]
        if field.level() > 0:
            inner = self.elements(field.base)
            lifted = [field.lift(e) for e in inner]
            found = found + lifted[-1:] + [
                field.add(field.variable(), lifted[-1]),
                field.divide(lifted[0], field.subtract(field.variable(), lifted[-1]))]
        return found

    def test_products_are_divided_again(self):
        for field in LEVELS:
            some = self.elements(field)
            p = trim(field, some[-2:] + [field.zero(), field.one()])
            r = trim(field, [some[-1], field.one(), some[0]])
            product = self.pure(pmul, field, p, r)
            self.assertTrue(is_polynomial(field, product))
            self.assertEqual(product, plain_product(field, p, r))
            self.assertEqual(self.pure(pdivide, field, product, r), (p, ()))
            more = padd(field, product, (some[-1],))
            self.assertEqual(self.pure(pdivide, field, more, r), (p, (some[-1],)))
            self.assertEqual(self.pure(pquotient, field, product, p), r)
            self.assertIsNone(pquotient(field, more, p))
            self.assertEqual(psub(field, more, product), (some[-1],))
            self.assertEqual(ppow(field, r, 2), pmul(field, r, r))
            self.assertEqual(pscale(field, pmonic(field, product), last(product)), product)

    def test_values_and_compositions(self):
        for field in LEVELS:
            some = self.elements(field)
            e = some[-1]
            p = (e, field.zero(), field.one())
            square = field.multiply(e, e)
            self.assertEqual(self.pure(pvalue, field, p, e), field.add(e, square))
            self.assertEqual(self.pure(pvalue, field, (field.negative(e), field.one()), e),
                             field.zero())
            shifted = self.pure(pcompose, field, p, (e, field.one()))
            self.assertEqual(shifted, (field.add(e, square), field.add(e, e), field.one()))
            self.assertEqual(self.pure(pformal, field, shifted),
                             (field.add(e, e), field.rational((2, 1))))
            self.assertEqual(pneg(field, pneg(field, shifted)), shifted)
            self.assertEqual(monomial(field, e, 3)[3], e)
            self.assertEqual(constant(field, e), (e,))


if __name__ == "__main__":
    unittest.main()
