"""Chapter 5: rational and integer roots, points 5.6 and 5.7."""

import random
import unittest
from fractions import Fraction

from integraph.errors import ZeroDivisor
from integraph.polynomial import pmul, ppow, pscale, pvalue
from integraph.roots import integer_roots, integer_roots_in, rational_roots
from tests.algebra import LEVELS, chance_element, chance_polynomial, el, pol, q, rat
from tests.helpers import PureCase

Q = LEVELS[0]

# Polynomials over the rationals without rational roots.
ROOTLESS = (q(1, 0, 1), q(-2, 0, 1), q(-2, 0, 0, 1), q(1, 1, 1), q(-3, 0, 2), q("1/2", 0, 3),
            q(1, 0, 0, 0, 1), q(-10 ** 40 - 1, 0, 10 ** 20), q(3, 1, 0, 0, 0, 1))


def product(field, *polynomials):
    found = (field.one(),)
    for p in polynomials:
        found = pmul(field, found, p)
    return found


def line(root):
    return q(-Fraction(root), 1)


def slow_roots(p):
    """Tries each divisor of the first coefficient over each one of the last."""
    scale = 1
    for c in p:
        scale = scale * c[1]
    whole = [c[0] * (scale // c[1]) for c in p]
    zero = set()
    while whole[0] == 0:
        whole.pop(0)
        zero = {Fraction(0)}
    tops = [k for k in range(1, abs(whole[0]) + 1) if whole[0] % k == 0]
    bottoms = [k for k in range(1, abs(whole[-1]) + 1) if whole[-1] % k == 0]
    tried = {Fraction(sign * a, b) for a in tops for b in bottoms for sign in (1, -1)}
    found = {x for x in tried if sum(c * x ** k for k, c in enumerate(whole)) == 0}
    return tuple(rat(x) for x in sorted(found | zero))


class Rational(PureCase):
    def check(self, roots, *others):
        """The polynomial has these roots and factors without rational roots."""
        p = product(Q, *[line(root) for root in roots], *others)
        found = self.pure(rational_roots, p)
        self.assertEqual(found, tuple(rat(root) for root in sorted(set(map(Fraction, roots)))))
        whole = self.pure(integer_roots, p)
        self.assertEqual(whole, tuple(n for n, d in found if d == 1))
        for k in whole:
            self.assertIs(type(k), int)
        self.assertEqual(self.pure(integer_roots_in, Q, p), whole)

    def test_the_example(self):
        self.assertEqual(self.pure(rational_roots, ((-2, 1), (0, 1), (1, 2))), ((-2, 1), (2, 1)))

    def test_roots_with_multiplicities(self):
        self.check([1, 1, 1])
        self.check([-3, -3, 2, 2, 2, "1/2", "1/2", 5])
        self.check(["-7/3"] * 4 + ["7/3"] * 3)

    def test_negative_roots_and_fractions_in_ascending_order(self):
        self.check([3, -1, "1/2", "-1/2", "1/3", "-5/4", 10, -10])
        self.check(["1/2", "1/3", "1/5", "1/7", "1/11", "1/13"])
        self.check(["-22/7", "-3", "-25/8", "-355/113"])

    def test_zero_as_a_root(self):
        self.check([0])
        self.check([0, 0, 0])
        self.check([0, 0, 5, "-1/5"])
        self.check([0], q(1, 0, 1))
        self.check([0, 0, 0, 0], q(-2, 0, 1), q(-2, 0, 0, 1))

    def test_no_rational_root(self):
        for p in ROOTLESS:
            self.check([], p)
            self.check([], p, p)
            for other in ROOTLESS:
                self.check([2, "-3/7", "-3/7"], p, other)

    def test_constants_have_no_root(self):
        for number in (1, -5, "2/3", 10 ** 300):
            self.check([], q(number))

    def test_zero(self):
        for function in (rational_roots, integer_roots):
            self.pure_raises(ZeroDivisor, function, ())

    def test_scaling_changes_nothing(self):
        p = product(Q, line(4), line("-5/6"), line(0), q(1, 0, 1))
        for number in ("1/2", -1, "-7/30", 10 ** 100, Fraction(1, 10 ** 100)):
            self.assertEqual(rational_roots(pscale(Q, p, rat(Fraction(number)))),
                             (rat(Fraction(-5, 6)), rat(0), rat(4)))

    def test_every_small_polynomial(self):
        chance = random.Random(1)
        for _ in range(400):
            p = tuple(rat(Fraction(chance.randint(-12, 12), chance.randint(1, 3)))
                      for _ in range(chance.randint(1, 5)))
            if p[-1] != rat(0):
                self.assertEqual(rational_roots(p), slow_roots(p))

    def test_many_products(self):
        chance = random.Random(2)
        for _ in range(80):
            roots = [Fraction(chance.randint(-60, 60), chance.randint(1, 24))
                     for _ in range(chance.randint(0, 6))]
            self.check(roots, *chance.sample(ROOTLESS, chance.randint(0, 2)))

    def test_large_roots_and_coefficients(self):
        chance = random.Random(3)
        big = [Fraction(chance.randint(-10 ** 300, 10 ** 300), chance.randint(1, 10 ** 200))
               for _ in range(5)]
        self.check(big + [0, 0, 1])
        self.check(big[:2], q(1, 0, 10 ** 400), q(-3, 0, 0, 10 ** 150 + 7))
        self.check([10 ** 500, -10 ** 500, Fraction(1, 10 ** 500)])
        self.check([], q(10 ** 300 + 1, 10 ** 299, 1, 10 ** 250 + 3))

    def test_last_coefficients_with_many_divisors(self):
        many = 2 ** 40 * 3 ** 20 * 5 ** 10 * 7 ** 5 * 11 * 13 * 17 * 19 * 23
        self.check([Fraction(1, many), Fraction(many, 29), Fraction(-31, many)])
        self.check([], q(many, 1, many))
        self.check([Fraction(7, many)], q(many, 0, many + 1))

    def test_many_roots(self):
        self.check(list(range(-25, 26)))
        self.check([Fraction(1, k) for k in range(1, 25)])
        self.check([Fraction(k, k + 1) for k in range(20)] * 2)

    def test_roots_that_agree_modulo_small_primes(self):
        primes = 2 * 3 * 5 * 7 * 11 * 13
        self.check([1, 1 + primes, 1 + 2 * primes, 1 - primes])
        self.check([Fraction(1, primes), Fraction(1, 2 * primes)], q(primes, 0, 1))

    def test_candidates_that_are_no_roots(self):
        # Roots modulo each prime, but no rational one.
        self.check([], q(-13, 0, 1), q(-17, 0, 1), q(-221, 0, 1))
        self.check([3], q(-13, 0, 1), q(-17, 0, 1), q(-221, 0, 1))


class Integer(PureCase):
    def test_integers_only(self):
        p = product(Q, line(-3), line("1/2"), line(0), line(7), line("-9/4"))
        self.assertEqual(self.pure(integer_roots, p), (-3, 0, 7))
        self.assertEqual(self.pure(integer_roots, product(Q, line("1/2"))), ())

    def test_large(self):
        self.assertEqual(integer_roots(product(Q, line(10 ** 400), line(-10 ** 399))),
                         (-10 ** 399, 10 ** 400))


class OverFields(PureCase):
    def other_factors(self, n):
        """Returns polynomials in z over level n without integer roots."""
        found = [pol(n, "1", "2"), pol(n, "1", "0", "1"), pol(n, "-1/2", "1")]
        for k in range(1, n + 1):
            found += [pol(n, f"-t{k}", "1"), pol(n, f"1/(t{k}+1)", "0", f"t{k}"),
                      pol(n, f"t{k}^2-2", "t1", "1"), pol(n, f"t{k}/(t1^2-3)")]
        return found

    def check(self, n, roots, factors):
        field = LEVELS[n]
        lines = [(field.rational((-k, 1)), field.one()) for k in roots]
        p = product(field, *lines, *factors)
        self.assertEqual(self.pure(integer_roots_in, field, p), tuple(sorted(set(roots))))

    def test_with_factors_that_have_no_integer_roots(self):
        chance = random.Random(4)
        for n, rounds in ((0, 20), (1, 20), (2, 10), (3, 5)):
            for _ in range(rounds):
                roots = [chance.randint(-9, 9) for _ in range(chance.randint(0, 3))]
                factors = chance.sample(self.other_factors(n), 2)
                self.check(n, roots, factors)

    def test_zero_and_great_integers(self):
        for n in range(4):
            for roots in ([0], [0, 0, 0], [10 ** 200, -10 ** 199], []):
                self.check(n, roots, self.other_factors(n)[-1:])
                self.check(n, roots, [])

    def test_coefficients_with_unlike_denominators(self):
        # (z - 2) (z / x + 1 / (x + 1)) and like ones.
        p = pmul(LEVELS[1], pol(1, "-2", "1"), pol(1, "1/(x+1)", "1/x"))
        self.assertEqual(integer_roots_in(LEVELS[1], p), (2,))
        p = pol(1, "-3/x", "1/x + 2/(x+1)", "1/(x^2-5) - 7/x")
        self.assertEqual(integer_roots_in(LEVELS[1], p), ())
        field = LEVELS[3]
        p = product(field, pol(3, "-5", "1"), pol(3, "1/(t3+1)", "t2/(t3-x)", "x/t2"))
        self.assertEqual(integer_roots_in(field, p), (5,))

    def test_a_root_of_some_coefficients_alone(self):
        # z (z - 1) x + z (z - 2): the integers 1 and 2 are roots of one of both.
        p = pol(1, "0", "-x-2", "x+1")
        self.assertEqual(self.pure(integer_roots_in, LEVELS[1], p), (0,))
        p = pol(2, "0", "-t2-2*x", "t2+x")
        self.assertEqual(self.pure(integer_roots_in, LEVELS[2], p), (0,))
        p = pol(2, "6*t2", "-5*t2", "t2+x-x")
        self.assertEqual(self.pure(integer_roots_in, LEVELS[2], p), (2, 3))

    def test_values_at_integers_decide(self):
        chance = random.Random(6)
        for n in (1, 2):
            field = LEVELS[n]
            for _ in range(15):
                p = chance_polynomial(chance, field, 2)
                k = chance.randint(-3, 3)
                p = pmul(field, p, (field.rational((-k, 1)), field.one()))
                if not p:
                    continue
                found = integer_roots_in(field, p)
                for m in range(-6, 7):
                    zero = field.is_zero(pvalue(field, p, field.rational((m, 1))))
                    self.assertEqual(m in found, zero)

    def test_constants_and_zero(self):
        for n in range(4):
            field = LEVELS[n]
            self.pure_raises(ZeroDivisor, integer_roots_in, field, ())
            self.assertEqual(integer_roots_in(field, (field.one(),)), ())
        self.assertEqual(integer_roots_in(LEVELS[1], (el(1, "x-3"),)), ())

    def test_powers_of_polynomials(self):
        field = LEVELS[2]
        p = ppow(field, pol(2, "-4", "1"), 3)
        self.assertEqual(integer_roots_in(field, pmul(field, p, pol(2, "t2*x"))), (4,))
        chance = random.Random(8)
        e = chance_element(chance, field)
        self.assertEqual(integer_roots_in(field, pscale(field, p, e)), (4,))


if __name__ == "__main__":
    unittest.main()
