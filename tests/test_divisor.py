"""Chapter 3: common divisors, squarefree parts and partial fractions, points 3.3 and 3.5 to 3.7."""

import random
import unittest
from fractions import Fraction

from integraph.divisor import (
    partial, pbezout, pgcd, psolve, separate, squarefree, squarefree_part)
from integraph.errors import Malformed, ZeroDivisor
from integraph.polynomial import is_polynomial, padd, pdivide, pformal, pmul, ppow, psub
from tests.algebra import LEVELS, chance_polynomial, monic, q
from tests.helpers import PureCase

Q, QX, QXT = LEVELS[:3]


def slow_gcd(field, p, r):
    """Euclid's algorithm as point 3.4 tells it, with monic remainders."""
    while r:
        p, r = r, monic(field, pdivide(field, p, r)[1])
    return monic(field, p)


def product(field, *polynomials):
    found = (field.one(),)
    for p in polynomials:
        found = pmul(field, found, p)
    return found


def coprime(field, p, r):
    """By Euclid's algorithm, or by pgcd where Euclid's would take long."""
    found = slow_gcd if field.level() < 2 else pgcd
    return found(field, p, r) == (field.one(),)


def triples(field, count):
    """Returns (p, r, c) where c is known to divide p and r: edges first, then chance."""
    chance = random.Random(41 + field.level())
    one = (field.one(),)
    e = (field.rational((-3, 7)),)
    some = [chance_polynomial(chance, field, size) for size in (1, 2, 1)]
    p, r, c = [pad(field, s) for s in some]
    found = [((), (), one), ((), p, p), (p, (), p), ((), one, one), (one, (), one),
             (one, one, one), (e, one, one), (p, one, one), (one, p, one), (e, p, one),
             (p, p, p), (p, pmul(field, p, r), p), (pmul(field, p, r), p, p),
             (ppow(field, p, 3), ppow(field, p, 2), ppow(field, p, 2)),
             (pmul(field, p, c), pmul(field, pmul(field, r, c), c), c)]
    while len(found) < count:
        p, r, c = [chance_polynomial(chance, field, chance.randint(0, 2)) for _ in range(3)]
        if c:
            found.append((pmul(field, p, c), pmul(field, r, c), c))
    return found


def pad(field, p):
    """Returns p, or a polynomial of degree 1 if p is constant."""
    return p if len(p) > 1 else (field.rational((3, 1)), field.one())


class OverFields(PureCase):
    def each(self, count=40):
        for field, many in ((Q, count), (QX, count), (QXT, count // 2 + 5)):
            with self.subTest(level=field.level()):
                yield field, triples(field, many)

    def assert_polynomials(self, field, *values):
        for value in values:
            self.assert_true(is_polynomial(field, value))

    def assert_monic(self, field, p):
        self.assert_polynomials(field, p)
        self.assertEqual(p[-1], field.one())

    def quotient(self, field, p, r):
        found, rest = pdivide(field, p, r)
        self.assertEqual(rest, ())
        return found


class CommonDivisors(OverFields):
    def test_the_divisor_is_euclids(self):
        for field, found in self.each():
            for p, r, _ in found:
                self.assertEqual(self.pure(pgcd, field, p, r), slow_gcd(field, p, r))

    def test_it_is_monic_and_divides_both(self):
        for field, found in self.each():
            for p, r, c in found:
                g = pgcd(field, p, r)
                self.assert_polynomials(field, g)
                if p or r:
                    self.assert_monic(field, g)
                    self.quotient(field, p, g)
                    self.quotient(field, r, g)
                    self.quotient(field, g, c)

    def test_zero(self):
        for field, found in self.each():
            self.assertEqual(self.pure(pgcd, field, (), ()), ())
            for p, _, _ in found:
                self.assertEqual(pgcd(field, p, ()), monic(field, p))
                self.assertEqual(pgcd(field, (), p), monic(field, p))

    def test_constants(self):
        for field, found in self.each():
            e = field.rational((-3, 7))
            for p, _, _ in found:
                self.assertEqual(pgcd(field, p, (e,)), (field.one(),))
                self.assertEqual(pgcd(field, (e,), p), (field.one(),))

    def test_multiples(self):
        for field, found in self.each():
            for p, r, _ in found:
                if p and r:
                    multiple = pmul(field, p, r)
                    self.assertEqual(pgcd(field, p, multiple), monic(field, p))
                    self.assertEqual(pgcd(field, multiple, p), monic(field, p))

    def test_known_divisors(self):
        self.assertEqual(pgcd(Q, q(-1, 0, 1), q(1, 2, 1)), q(1, 1))
        self.assertEqual(pgcd(Q, q(2, 4), q(3, 6)), q(Fraction(1, 2), 1))
        self.assertEqual(pgcd(Q, q(0, 0, 2), q(0, 0, 0, 5)), q(0, 0, 1))
        self.assertEqual(pgcd(Q, q(1, 0, 1), q(-1, 0, 1)), q(1))
        x, one = QX.variable(), QX.one()
        # x t^2 - x and t - 1 over the functions of x.
        self.assertEqual(pgcd(QX, (QX.negative(x), QX.zero(), x), (QX.negative(one), one)),
                         (QX.negative(one), one))
        # (x t - 1)(t + x) and (x t - 1)(t - x): the divisor is monic, t - 1/x.
        line = (QX.negative(one), x)
        self.assertEqual(pgcd(QX, pmul(QX, line, (x, one)), pmul(QX, line, (QX.negative(x), one))),
                         (QX.negative(QX.inverse(x)), one))

    def test_great_numbers(self):
        big = Fraction(10 ** 60 + 7, 3 ** 50)
        c = q(big, -big, 1)
        p, r = product(Q, c, c, q(1, big)), product(Q, c, q(-1, 0, big))
        self.assertEqual(pgcd(Q, p, r), c)

    def test_great_degrees(self):
        minus = q(-1)
        p, r = minus + q(*[0] * 89, 1), minus + q(*[0] * 59, 1)
        self.assertEqual(pgcd(Q, p, r), minus + q(*[0] * 29, 1))
        p, r = ppow(Q, q(1, 1), 60), ppow(Q, q(1, 1), 45)
        self.assertEqual(pgcd(Q, pmul(Q, p, q(2, 1)), pmul(Q, r, q(3, 1))), r)

    def test_values_with_a_common_divisor(self):
        # x (x + 1) and all their neighbours have even values at all integers.
        for k in range(1, 12):
            p, r = q(0, 1, 1), q(k * 6, 5, 1)
            self.assertEqual(pgcd(Q, p, r), slow_gcd(Q, p, r))
            p, r = q(2 * k, 1, 1), q(24, -50, 35, -10, 1)
            self.assertEqual(pgcd(Q, p, r), slow_gcd(Q, p, r))

    def test_coefficients_greater_than_those_of_both(self):
        c = product(Q, *[q(-1, 0, 0, 1)] * 3, *[q(-1, 0, 0, 0, 0, 1)] * 3)
        p, r = pmul(Q, c, q(1, 1)), pmul(Q, c, q(1, 0, 1))
        self.assertEqual(pgcd(Q, p, r), c)


class Bezout(OverFields):
    def check(self, field, p, r):
        g, u, v = self.pure(pbezout, field, p, r)
        self.assert_polynomials(field, g, u, v)
        self.assertEqual(g, pgcd(field, p, r))
        self.assertEqual(padd(field, pmul(field, u, p), pmul(field, v, r)), g)
        if not r:
            self.assertEqual(v, ())
            self.assertEqual(u, (field.inverse(p[-1]),) if p else ())
        else:
            self.assertLess(len(u), len(self.quotient(field, r, g)))
        if not p:
            self.assertEqual(u, ())

    def test_all(self):
        for field, found in self.each():
            for p, r, _ in found:
                self.check(field, p, r)
                self.check(field, r, p)

    def test_zeros(self):
        for field, _ in self.each():
            self.assertEqual(pbezout(field, (), ()), ((), (), ()))
        self.assertEqual(pbezout(Q, q(6, 4), ()), (q(Fraction(3, 2), 1), q(Fraction(1, 4)), ()))
        self.assertEqual(pbezout(Q, (), q(6, 4)), (q(Fraction(3, 2), 1), (), q(Fraction(1, 4))))
        self.assertEqual(pbezout(Q, q(5), ()), (q(1), q(Fraction(1, 5)), ()))

    def test_constants(self):
        self.assertEqual(pbezout(Q, q(2), q(5)), (q(1), (), q(Fraction(1, 5))))
        self.assertEqual(pbezout(Q, q(0, 1), q(5)), (q(1), (), q(Fraction(1, 5))))
        self.assertEqual(pbezout(Q, q(5), q(0, 1)), (q(1), q(Fraction(1, 5)), ()))

    def test_equal_ones_and_multiples(self):
        p, r = q(1, 1), q(1, 2, 1)
        self.assertEqual(pbezout(Q, p, p), (p, (), q(1)))
        self.assertEqual(pbezout(Q, r, p), (p, (), q(1)))
        self.assertEqual(pbezout(Q, p, r), (p, q(1), ()))

    def test_known_ones(self):
        self.assertEqual(pbezout(Q, q(0, 1), q(1, 0, 1)), (q(1), q(0, -1), q(1)))
        x, one = QX.variable(), QX.one()
        # -1/(2 x) (t - x) + 1/(2 x) (t + x) = 1
        half = QX.divide(QX.rational((1, 2)), x)
        self.assertEqual(pbezout(QX, (QX.negative(x), one), (x, one)),
                         ((one,), (QX.negative(half),), (half,)))

    def test_every_level(self):
        for field in LEVELS:
            t = self.tower_element(field)
            self.check(field, (t, field.one()), (field.one(), t, field.one()))
            self.check(field, (field.one(), t), (field.one(), t))

    def tower_element(self, field):
        if field.level() == 0:
            return (2, 3)
        return field.divide(field.variable(), field.lift(self.tower_element(field.base)))


class Solving(OverFields):
    def check(self, field, a, b, c):
        found = self.pure(psolve, field, a, b, c)
        g = slow_gcd(field, a, b)
        if (c != () if g == () else pdivide(field, c, g)[1] != ()):
            self.assertIsNone(found)
            return
        s, t = found
        self.assertIs(type(found), tuple)
        self.assert_polynomials(field, s, t)
        self.assertEqual(padd(field, pmul(field, s, a), pmul(field, t, b)), c)
        if not b:
            self.assertEqual(t, ())
            if not a:
                self.assertEqual(s, ())
        else:
            self.assertLess(len(s), len(self.quotient(field, b, g)))

    def test_all(self):
        for field, found in self.each(30):
            chance = random.Random(9)
            for a, b, c in found:
                other = chance_polynomial(chance, field, 2)
                for goal in ((), (field.one(),), c, pmul(field, c, other), other,
                             padd(field, pmul(field, other, a), b)):
                    self.check(field, a, b, goal)

    def test_the_example(self):
        self.assertEqual(psolve(Q, ((0, 1), (1, 1)), ((1, 1), (1, 1)), ((1, 1),)),
                         (((-1, 1),), ((1, 1),)))

    def test_both_zero(self):
        for field, found in self.each():
            self.assertEqual(self.pure(psolve, field, (), (), ()), ((), ()))
            for p, _, _ in found:
                expected = None if p else ((), ())
                self.assertEqual(self.pure(psolve, field, (), (), p), expected)

    def test_one_zero(self):
        self.assertEqual(psolve(Q, q(2, 2), (), q(1, 2, 1)), (q(Fraction(1, 2), Fraction(1, 2)), ()))
        self.assertEqual(psolve(Q, (), q(2, 2), q(1, 2, 1)), ((), q(Fraction(1, 2), Fraction(1, 2))))
        self.assertEqual(psolve(Q, q(2, 2), (), ()), ((), ()))
        self.assertEqual(psolve(Q, (), q(2, 2), ()), ((), ()))
        self.assertIsNone(psolve(Q, q(2, 2), (), q(1)))
        self.assertIsNone(psolve(Q, (), q(2, 2), q(1)))

    def test_none(self):
        self.assertIsNone(self.pure(psolve, Q, q(0, 1), q(0, 0, 1), q(1)))
        self.assertIsNone(psolve(Q, q(0, 1, 1), q(0, 2), q(1, 1)))
        x, one = QX.variable(), QX.one()
        line = (x, one)
        self.assertIsNone(psolve(QX, line, pmul(QX, line, line), (x, QX.zero(), one)))

    def test_zero_is_always_reached(self):
        for field, found in self.each():
            for a, b, _ in found:
                self.assertEqual(psolve(field, a, b, ()), ((), ()))

    def test_a_goal_of_great_degree(self):
        a, b, c = q(1, 1), q(2, 0, 1), q(*range(1, 20))
        s, t = psolve(Q, a, b, c)
        self.assertLess(len(s), 3)
        self.assertEqual(padd(Q, pmul(Q, s, a), pmul(Q, t, b)), c)


class Squarefree(OverFields):
    def check(self, field, p):
        parts = self.pure(squarefree, field, p)
        powers = [k for _, k in parts]
        self.assertEqual(powers, sorted(set(powers)))
        whole, once = (p[-1],), (field.one(),)
        for at, (part, k) in enumerate(parts):
            self.assertGreater(len(part), 1)
            self.assertGreater(k, 0)
            self.assert_monic(field, part)
            self.assertTrue(coprime(field, part, pformal(field, part)))
            for other, _ in parts[:at]:
                self.assertTrue(coprime(field, part, other))
            whole = pmul(field, whole, ppow(field, part, k))
            once = pmul(field, once, part)
        self.assertEqual(whole, p)
        self.assertEqual(self.pure(squarefree_part, field, p), once)

    def test_all(self):
        for field, found in self.each():
            for p, r, c in found:
                for factor in (p, r, c):
                    if factor:
                        self.check(field, factor)

    def test_powers_with_common_factors(self):
        for field, _ in self.each():
            chance = random.Random(17)
            for _ in range(12 if field is not QXT else 3):
                some = [pad(field, chance_polynomial(chance, field, 1)) for _ in range(3)]
                p = (field.rational((-5, 2)),)
                for factor in some:
                    p = pmul(field, p, ppow(field, factor, chance.randint(0, 3)))
                self.check(field, p)

    def test_constants(self):
        for field, _ in self.each():
            for e in (field.one(), field.rational((-7, 3))):
                self.assertEqual(self.pure(squarefree, field, (e,)), ())
                self.assertEqual(self.pure(squarefree_part, field, (e,)), (field.one(),))
        self.assertEqual(squarefree(QX, (QX.variable(),)), ())
        self.assertEqual(squarefree_part(QX, (QX.variable(),)), (QX.one(),))

    def test_known_parts(self):
        p = product(Q, q(3), q(1, 1), ppow(Q, q(2, 1), 2), ppow(Q, q(1, 0, 1), 2), ppow(Q, q(0, 1), 5))
        parts = ((q(1, 1), 1), (pmul(Q, q(2, 1), q(1, 0, 1)), 2), (q(0, 1), 5))
        self.assertEqual(squarefree(Q, p), parts)
        self.assertEqual(squarefree_part(Q, p),
                         product(Q, q(1, 1), q(2, 1), q(1, 0, 1), q(0, 1)))
        self.assertEqual(squarefree(Q, ppow(Q, q(1, 1), 40)), ((q(1, 1), 40),))
        self.assertEqual(squarefree(Q, q(-2, 0, 0, 2)), ((q(-1, 0, 0, 1), 1),))

    def test_coefficients_are_no_divisors(self):
        # x^2 t + x^3 over the functions of x has the part t + x alone.
        x = QX.variable()
        p = (QX.power(x, 3), QX.power(x, 2))
        self.assertEqual(squarefree(QX, p), (((x, QX.one()), 1),))
        self.assertEqual(squarefree_part(QX, p), (x, QX.one()))

    def test_zero(self):
        for field, _ in self.each():
            self.pure_raises(ZeroDivisor, squarefree, field, ())
            self.pure_raises(ZeroDivisor, squarefree_part, field, ())


class Separated(OverFields):
    def check(self, field, p, r):
        p1, p2 = self.pure(separate, field, p, r)
        self.assert_monic(field, p1)
        self.assert_polynomials(field, p2)
        self.assertEqual(pmul(field, p1, p2), p)
        self.assertTrue(coprime(field, p2, r))
        # Every divisor of p1 has one in common with r: p1 divides a power of r.
        if len(p1) > 1:
            power = (field.one(),)
            for _ in range(len(p1) - 1):
                power = pdivide(field, pmul(field, power, r), p1)[1]
            self.assertEqual(power, ())

    def test_all(self):
        for field, found in self.each():
            for p, r, c in found:
                for one, two in ((p, r), (r, p), (pmul(field, p, c), c), (c, p)):
                    if one:
                        self.check(field, one, two)

    def test_by_zero(self):
        for field, found in self.each():
            for p, _, _ in found:
                if p:
                    self.assertEqual(self.pure(separate, field, p, ()),
                                     (monic(field, p), (p[-1],)))

    def test_by_a_constant(self):
        for field, found in self.each():
            for p, _, _ in found:
                if p:
                    self.assertEqual(separate(field, p, (field.rational((3, 2)),)),
                                     ((field.one(),), p))

    def test_of_a_constant(self):
        for field, found in self.each():
            e = field.rational((-3, 2))
            for p, _, _ in found:
                self.assertEqual(separate(field, (e,), p), ((field.one(),), (e,)))
        x = QX.variable()
        self.assertEqual(separate(QX, (x,), (x,)), ((QX.one(),), (x,)))

    def test_known_ones(self):
        p = product(Q, q(5), ppow(Q, q(0, 1), 3), ppow(Q, q(1, 1), 2), q(2, 1))
        self.assertEqual(separate(Q, p, q(0, 7)), (q(0, 0, 0, 1), product(
            Q, q(5), ppow(Q, q(1, 1), 2), q(2, 1))))
        self.assertEqual(separate(Q, p, q(0, 1, 1)),
                         (pmul(Q, q(0, 0, 0, 1), ppow(Q, q(1, 1), 2)), q(10, 5)))
        self.assertEqual(separate(Q, p, q(3, 1)), (q(1), p))

    def test_zero(self):
        for field, found in self.each():
            for p, _, _ in found:
                self.pure_raises(ZeroDivisor, separate, field, (), p)


class Partial(OverFields):
    def check(self, field, a, factors):
        whole, parts = self.pure(partial, field, a, factors)
        self.assert_polynomials(field, whole)
        self.assertEqual(len(parts), len(factors))
        bottom = product(field, *[ppow(field, f, k) for f, k in factors])
        total = pmul(field, whole, bottom)
        for (f, k), part in zip(factors, parts):
            self.assertIs(type(part), tuple)
            self.assertEqual(len(part), k)
            for j, b in enumerate(part, 1):
                self.assert_polynomials(field, b)
                self.assertLess(len(b), len(f))
                # b / f^j with the common denominator.
                share = pdivide(field, bottom, ppow(field, f, j))
                self.assertEqual(share[1], ())
                total = padd(field, total, pmul(field, b, share[0]))
        self.assertEqual(total, a)

    def factors_of(self, field, p):
        return squarefree(field, p) if len(p) > 1 else ()

    def test_all(self):
        for field, found in self.each(25):
            chance = random.Random(3)
            for p, r, c in found:
                p = pmul(field, p, r)
                if p and len(p) < (9, 9, 4)[field.level()]:
                    for size in (0, 2, 5):
                        a = chance_polynomial(chance, field, size)
                        self.check(field, a, self.factors_of(field, p))

    def test_no_factors(self):
        for field, found in self.each():
            for p, _, _ in found:
                self.assertEqual(self.pure(partial, field, p, ()), (p, ()))

    def test_zero(self):
        self.assertEqual(self.pure(partial, Q, (), ((q(0, 1), 2), (q(1, 1), 1))),
                         ((), (((), ()), ((),))))

    def test_known_ones(self):
        # 1 / (x^2 (x + 1)) = -1/x + 1/x^2 + 1/(x + 1)
        self.assertEqual(partial(Q, q(1), ((q(0, 1), 2), (q(1, 1), 1))),
                         ((), ((q(-1), q(1)), (q(1),))))
        # The order of the factors is that of the parts.
        self.assertEqual(partial(Q, q(1), ((q(1, 1), 1), (q(0, 1), 2))),
                         ((), ((q(1),), (q(-1), q(1)))))
        # (x^3 + 1) / x^2 = x + 1/x^2
        self.assertEqual(partial(Q, q(1, 0, 0, 1), ((q(0, 1), 2),)), (q(0, 1), (((), q(1)),)))
        # x^3 / (x^2 + 1)^2 = x/(x^2 + 1) - x/(x^2 + 1)^2
        self.assertEqual(partial(Q, q(0, 0, 0, 1), ((q(1, 0, 1), 2),)),
                         ((), ((q(0, 1), q(0, -1)),)))

    def test_a_numerator_with_common_factors(self):
        self.assertEqual(partial(Q, q(0, 1), ((q(0, 1), 2),)), ((), ((q(1), ()),)))
        self.assertEqual(partial(Q, q(0, 0, 1), ((q(0, 1), 2),)), (q(1), (((), ()),)))

    def test_great_powers(self):
        a = q(*range(1, 130))
        self.check(Q, a, ((q(1, 1), 100), (q(3, 0, 1), 20)))
        x = QX.variable()
        self.check(QX, (x, QX.one(), x), (((x, QX.one()), 12), ((QX.one(), QX.one()), 2)))

    def test_factors_that_are_not_monic(self):
        for field, _ in self.each():
            two = field.rational((2, 1))
            good = ((field.one(), field.one()), 1)
            for bad in ((field.one(), two), (field.one(), field.negative(field.one())), ()):
                for k in (1, 2):
                    self.pure_raises(Malformed, partial, field, (two,), ((bad, k),))
                    self.pure_raises(Malformed, partial, field, (two,), (good, (bad, k)))
                    self.pure_raises(Malformed, partial, field, (), ((bad, k), good))

    def test_factors_of_degree_zero(self):
        for field, _ in self.each():
            for bad in ((field.one(),), (field.rational((2, 1)),)):
                self.pure_raises(Malformed, partial, field, (field.one(),), ((bad, 1),))

    def test_powers_that_are_too_small_or_too_great(self):
        for field, _ in self.each():
            f, g = (field.zero(), field.one()), (field.one(), field.one())
            for k in (0, -1, 101, 1000):
                self.pure_raises(Malformed, partial, field, (field.one(),), ((f, k),))
                self.pure_raises(Malformed, partial, field, (field.one(),), ((f, 1), (g, k)))
        whole, (part,) = partial(Q, q(1), ((q(0, 1), 100),))
        self.assertEqual((whole, part), ((), ((),) * 99 + (q(1),)))

    def test_factors_that_are_not_coprime(self):
        for field, _ in self.each():
            f, g = (field.zero(), field.one()), (field.one(), field.one())
            for factors in (((f, 1), (f, 1)), ((f, 1), (g, 2), (f, 3)),
                            ((pmul(field, f, g), 1), (g, 1)),
                            ((f, 2), (g, 1), (pmul(field, f, g), 1))):
                self.pure_raises(Malformed, partial, field, (field.one(),), factors)

    def test_factors_that_are_not_squarefree(self):
        self.check(Q, q(1, 2, 3), ((q(1, 2, 1), 2), (q(0, 0, 1), 1)))


class SameAnswers(OverFields):
    def test_unique_answers_do_not_depend_on_the_order(self):
        for field, found in self.each():
            for p, r, _ in found:
                self.assertEqual(pgcd(field, p, r), pgcd(field, r, p))

    def test_differences_have_the_same_divisor(self):
        for field, found in self.each():
            for p, r, _ in found:
                self.assertEqual(pgcd(field, psub(field, p, r), r), pgcd(field, p, r))


if __name__ == "__main__":
    unittest.main()
