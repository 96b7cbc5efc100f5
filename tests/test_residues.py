"""Chapter 10: residues of simple elements, and their logarithms."""

import random
import unittest
from fractions import Fraction

from integraph.answers import derivative, is_answer
from integraph.hermite import hermite, is_simple
from integraph.polynomial import padd, pdivide, pmul, pquotient, pvalue
from integraph.residues import by_powers_of_z, constant_residues, logarithms, residue_polynomial
from tests.algebra import (
    EXP, LEVELS, LOG, X, el, pol, q, rat, tower, unlike_levels, with_roots, zpol)
from tests.helpers import PureCase

Q = LEVELS[0]


def places(n):
    """Returns elements of level n - 1, poles at which are normal for each kind."""
    found = ["1", "-1", "2", "-1/2", "3"]
    return [el(n - 1, text) for text in found + (["x", "x^2+1"] if n > 1 else [])]


def with_residues(t, n, pairs):
    """Returns the sum of c (D (t - b)) / (t - b) without its polynomial part; c are rationals."""
    base, field = t.field(n - 1), t.field(n)
    total = field.zero()
    for b, c in pairs:
        p = (base.negative(b), base.one())
        _, top = pdivide(base, t.derive_polynomial(n, p), p)
        part = field.multiply(field.fraction(top, p), field.rational(c))
        total = field.add(total, part)
    return total


class ResidueCase(PureCase):
    def each_level(self):
        for t, n in unlike_levels():
            with self.subTest(monomials=t.monomials()[:n]):
                yield t, n

    def check(self, t, n, h):
        """Looks after what logarithms returns."""
        found = self.pure(logarithms, t, n, h)
        constants = self.pure(constant_residues, t, n, h)
        self.assertEqual(found is None, constants is None)
        if found is None:
            return None
        logs, rest = found
        field = t.field(n)
        zero = field.zero()
        self.assert_true(is_answer(t, n, (zero, logs)))
        self.assert_true(t.field(n - 1).is_element(rest))
        self.assertEqual(field.add(derivative(t, n, (zero, logs)), field.lift(rest)), h)
        if t.kind(n) != "exp":
            self.assertEqual(rest, t.field(n - 1).zero())
        lengths = []
        product, left = q(1), constants
        for r, s in logs:
            product = pmul(Q, product, r)
            polynomials = [e[0] for e in s]
            for e in s:
                self.assertEqual(e[1], (t.field(n - 1).one(),))
            lengths.append(max(len(p) for p in polynomials))
            for _ in range(lengths[-1] - 1):
                left = pquotient(Q, left, r)
        # Each residue stands as often in the residue polynomial as the degree of its divisor.
        self.assertEqual(left, q(1))
        self.assertEqual(lengths, sorted(set(lengths)))
        return found


class Polynomial(ResidueCase):
    def test_the_examples(self):
        self.assertEqual(self.pure(residue_polynomial, X, 1, el(1, "1/(x^2+1)")),
                         q("1/4", 0, 1))
        self.assertEqual(residue_polynomial(LOG, 2, el(2, "1/t2")), pol(1, "-x", "1"))
        self.assertEqual(residue_polynomial(LOG, 2, el(2, "1/(x*t2)")), pol(1, "-1", "1"))
        self.assertEqual(residue_polynomial(EXP, 2, el(2, "1/(t2+1)")), pol(1, "1", "1"))

    def test_zero(self):
        for t, n in self.each_level():
            zero, one = t.field(n).zero(), t.field(n - 1).one()
            self.assertEqual(self.pure(residue_polynomial, t, n, zero), (one,))
            self.assertEqual(self.pure(constant_residues, t, n, zero), q(1))
            self.assertEqual(self.pure(logarithms, t, n, zero), ((), t.field(n - 1).zero()))

    def test_known_residues(self):
        for t, n in self.each_level():
            chance = random.Random(n)
            for count in (1, 2, 3):
                some = chance.sample(places(n), count)
                residues = [Fraction(chance.choice((-3, -1, 1, 1, 2, 5)), chance.choice((1, 2)))
                            for _ in some]
                h = with_residues(t, n, list(zip(some, map(rat, residues))))
                self.assertTrue(is_simple(t, n, h))
                wanted = with_roots(*residues)
                self.assertEqual(self.pure(constant_residues, t, n, h), wanted)
                self.assertEqual(self.pure(residue_polynomial, t, n, h),
                                 tuple(t.field(n - 1).rational(c) for c in wanted))
                self.check(t, n, h)

    def test_residues_that_occur_more_than_once(self):
        for t, n in self.each_level():
            some = places(n)[:4]
            for residues in ((2, 2), (1, 1, 1), (3, -1, 3), (1, 1, -2, -2), ("1/2", 1, 1, 1)):
                pairs = [(b, rat(Fraction(c))) for b, c in zip(some, residues)]
                h = with_residues(t, n, pairs)
                self.assertEqual(constant_residues(t, n, h), with_roots(*residues))
                logs, _ = self.check(t, n, h)
                self.assertEqual(len(logs), len({residues.count(c) for c in residues}))

    def test_residues_are_not_constant(self):
        for t, n, text in ((LOG, 2, "1/t2"), (LOG, 2, "1/(t2^2+x)"), (EXP, 2, "x/(t2+1)"),
                           (EXP, 2, "1/(t2+x)"), (LOG, 2, "1/(x*t2)+x/(t2+1)"),
                           (tower("log x", "exp x"), 3, "t2/(t3+1)")):
            h = el(n, text)
            self.assertIsNone(self.pure(constant_residues, t, n, h))
            self.assertIsNone(self.pure(logarithms, t, n, h))
            found = residue_polynomial(t, n, h)
            self.assertEqual(len(found), len(h[1]))
            self.assertEqual(found[-1], t.field(n - 1).one())

    def test_residues_that_are_alike_at_some_points(self):
        # Residues x^2, x^2 + x + 1 and like ones have one value at several small integers.
        for t, text, wanted in (
                (LOG, "x/t2", ("-x^2", "1")), (EXP, "-(x^2+x+1)/(t2+1)", ("-x^2-x-1", "1")),
                (EXP, "-(x^3-x+2)/(t2+1)", ("-x^3+x-2", "1")),
                (LOG, "x/t2+1/(x*(t2-1))", ("x^2", "-x^2-1", "1")),
                (EXP, "-((x^3-x+1)*x*(x+1)*(x-1)*(x^2-4)+3)/(t2+1)",
                 ("-((x^3-x+1)*x*(x+1)*(x-1)*(x^2-4)+3)", "1"))):
            h = el(2, text)
            self.assertEqual(self.pure(residue_polynomial, t, 2, h), pol(1, *wanted))
            self.assertIsNone(self.pure(constant_residues, t, 2, h))
            self.assertIsNone(self.pure(logarithms, t, 2, h))

    def test_its_degree_and_the_residues_by_their_rule(self):
        # At a rational pole b the residue is a(b) over the value of the derivative of d.
        chance = random.Random(3)
        for t, n in self.each_level():
            base = t.field(n - 1)
            some = chance.sample(places(n), 2)
            d = (base.one(),)
            for b in some:
                d = pmul(base, d, (base.negative(b), base.one()))
            a = tuple(chance.sample(places(n), 2))
            h = t.field(n).fraction(a, d)
            if len(h[1]) < 3 or not t.is_normal(n, d):
                continue
            found = residue_polynomial(t, n, h)
            self.assertEqual(len(found), 3)
            slope = t.derive_polynomial(n, d)
            for b in some:
                c = base.divide(pvalue(base, a, b), pvalue(base, slope, b))
                self.assertTrue(base.is_zero(pvalue(base, found, c)))


class Logarithms(ResidueCase):
    def test_the_examples(self):
        self.assertEqual(self.check(X, 1, el(1, "1/(x^2+1)")),
                         (((q("1/4", 0, 1), pol(1, "x", "2")),), rat(0)))
        self.assertIsNone(self.check(LOG, 2, el(2, "1/t2")))
        self.assertEqual(self.check(LOG, 2, el(2, "1/(x*t2)")),
                         (((q(-1, 1), pol(2, "t2")),), el(1, "0")))
        self.assertEqual(self.check(EXP, 2, el(2, "1/(t2+1)")),
                         (((q(1, 1), pol(2, "t2+1")),), el(1, "1")))

    def test_one_logarithm(self):
        self.assertEqual(self.check(X, 1, el(1, "3/(x-2)")),
                         (((q(-3, 1), pol(1, "x-2")),), rat(0)))
        self.assertEqual(self.check(X, 1, el(1, "2*x/(x^2+5)")),
                         (((q(-1, 1), pol(1, "x^2+5")),), rat(0)))
        self.assertEqual(self.check(X, 1, el(1, "1/x-1/(x+1)")),
                         (((q(-1, 0, 1), pol(1, "x+1/2", "-1/2")),), rat(0)))

    def test_two_lengths(self):
        h = el(1, "1/x + 2/(x-1) + 2/(x+1)")
        self.assertEqual(self.check(X, 1, h),
                         (((q(-1, 1), pol(1, "x")), (q(-2, 1), pol(1, "x^2-1"))), rat(0)))

    def test_residues_that_are_no_rationals(self):
        for text in ("1/(x^2-2)", "1/(x^3-2)", "x/(x^4+1)", "1/(x^4+1)", "1/(x^3+x+1)",
                     "(x+1)/((x^2-2)*(x^2+3))", "1/(x^5+x+1)", "x^2/(x^6-3)",
                     "1/(x*(x^2-3))"):
            self.assertIsNotNone(self.check(X, 1, el(1, text)))
        for text in ("1/(x*(t2^2-2))", "1/(x*(t2^3+t2+1))", "1/(x*(t2^2+1))+2/(x*(t2-5))",
                     "(1+1/x)/((t2+x)^2-3)"):
            self.assertIsNotNone(self.check(LOG, 2, el(2, text)))
        for text in ("1/(t2^2-2)", "t2/(t2^2+1)", "1/(t2^3-2)", "1/((t2^2+1)*(t2-1))",
                     "t2/(t2^3+t2+1)", "1/(t2^2+t2+1)+1/(t2-3)"):
            self.assertIsNotNone(self.check(EXP, 2, el(2, text)))

    def test_the_rest_over_an_exponential(self):
        t = tower("exp x^2")
        # The derivative of log(t - 1) is 2 x t / (t - 1), that is 2 x + 2 x / (t - 1).
        self.assertEqual(self.check(t, 2, el(2, "2*x/(t2-1)")),
                         (((q(-1, 1), pol(2, "t2-1")),), el(1, "0-2*x")))
        logs, rest = self.check(EXP, 2, el(2, "1/(t2^2-2)"))
        self.assertEqual((logs, rest), (((q("-1/4", 1), pol(2, "t2^2-2")),), el(1, "0-1/2")))
        t = tower("log x", "exp x*t2", "exp t3/x")
        self.check(t, 3, el(3, "(t2+1)/(t3+1)"))

    def test_parts_of_other_elements(self):
        for t, n, text in ((X, 1, "1/(x^2+1)^2+1/x"), (LOG, 2, "1/(x*t2^2*(t2+1))"),
                           (EXP, 2, "1/(t2^2-1)^2"), (EXP, 2, "1/(t2*(t2+1)^2)"),
                           (tower("exp x", "log t2+1"), 3, "t2/((t2+1)*t3*(t3-1)^2)")):
            _, h, _ = hermite(t, n, el(n, text))
            self.check(t, n, h)

    def test_divisors_have_the_values_of_the_sum(self):
        # Over the rational residues c the value of s at c is the product of t - b.
        for t, n in self.each_level():
            base = t.field(n - 1)
            some = places(n)[:4]
            residues = [rat(c) for c in (1, 2, 2, -3)]
            logs, _ = self.check(t, n, with_residues(t, n, list(zip(some, residues))))
            for r, s in logs:
                for c in set(residues):
                    if pvalue(Q, r, c) != rat(0):
                        continue
                    wanted = (base.one(),)
                    for b, other in zip(some, residues):
                        if other == c:
                            wanted = pmul(base, wanted, (base.negative(b), base.one()))
                    total = ()
                    for k, e in enumerate(s):
                        factor = base.power(base.rational(c), k)
                        total = padd(base, total, tuple(base.multiply(a, factor) for a in e[0]))
                    self.assertEqual(total, wanted)


class Powers(PureCase):
    def test_by_powers_of_z(self):
        self.assertEqual(self.pure(by_powers_of_z, LEVELS[1], (q(0, 2), q(1))),
                         pol(1, "x", "2"))
        self.assertEqual(by_powers_of_z(LEVELS[1], (q(5), (), q(0, 0, 3), q("1/2", 1))),
                         pol(1, "5+x^3/2", "x^3", "3*x^2"))
        self.assertEqual(by_powers_of_z(LEVELS[2], zpol(1, ("x", "1/x"), ("0", "0", "1"))),
                         pol(2, "x", "1/x", "t2"))
        self.assertEqual(by_powers_of_z(LEVELS[1], (q(0, 0, 1),)), pol(1, "0", "0", "1"))

    def test_zero(self):
        for field in LEVELS[1:4]:
            self.assertEqual(self.pure(by_powers_of_z, field, ()), ())

    def test_constants(self):
        for n in (1, 2, 3):
            one = (LEVELS[n - 1].one(),)
            self.assertEqual(by_powers_of_z(LEVELS[n], (one,)), (LEVELS[n].one(),))
            self.assertEqual(by_powers_of_z(LEVELS[n], ((), one)), (LEVELS[n].variable(),))


if __name__ == "__main__":
    unittest.main()
