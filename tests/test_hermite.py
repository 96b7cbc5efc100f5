"""Chapter 9: reduction of poles of higher order."""

import random
import unittest

from integraph.hermite import hermite, is_proper, is_reduced, is_reduction, is_simple
from integraph.polynomial import pmul, ppow
from tests.algebra import EXP, LOG, X, el, normal_polynomials, small_element, unlike_levels
from tests.helpers import PureCase


def fraction(chance, t, n, powers):
    """Returns an element with a numerator of a lower degree than the product of the powers."""
    base = t.field(n - 1)
    bottom = (base.one(),)
    for p, k in powers:
        bottom = pmul(base, bottom, ppow(base, p, k))
    size = chance.randint(1, len(bottom) - 1) if len(bottom) > 1 else 0
    top = [small_element(chance, n - 1) for _ in range(size)]
    while top and base.is_zero(top[-1]):
        top.pop()
    return t.field(n).fraction(tuple(top), bottom)


def triple(chance, t, n, most):
    """Returns g, h, r with the properties of point 9.2."""
    chosen = chance.sample(normal_polynomials(t, n), 3)
    g = fraction(chance, t, n, [(p, chance.randint(1, most)) for p in chosen[:2]])
    h = fraction(chance, t, n, [(p, 1) for p in chosen[1:]])
    low = -2 if t.kind(n) == "exp" else 0
    terms = tuple((chance.randint(low, 3), small_element(chance, n - 1)) for _ in "ab")
    return g, h, t.from_terms(n, terms)


def together(t, n, g, h, r):
    field = t.field(n)
    return field.add(field.add(t.derive(n, g), h), r)


class HermiteCase(PureCase):
    def each_level(self):
        for t, n in unlike_levels():
            with self.subTest(monomials=t.monomials()[:n]):
                yield t, n

    def check(self, t, n, f, *wanted):
        found = self.pure(hermite, t, n, el(n, f))
        self.assertEqual(found, tuple(el(n, text) for text in wanted))
        self.assert_true(self.pure(is_reduction, t, n, el(n, f), *found))


class Reduction(HermiteCase):
    def test_the_examples_over_x(self):
        self.check(X, 1, "1/x^2", "0-1/x", "0", "0")
        self.check(X, 1, "(x^3+1)/x^2", "0-1/x", "0", "x")
        self.check(X, 1, "1/(x^2*(x+1))", "0-1/x", "0-1/(x^2+x)", "0")

    def test_the_examples_over_an_exponential(self):
        self.check(EXP, 2, "1/t2", "0", "0", "1/t2")
        self.check(EXP, 2, "1/(t2+1)^2", "1/(t2+1)", "1/(t2+1)", "0")

    def test_the_example_over_a_logarithm(self):
        self.check(LOG, 2, "1/(x*t2^2)", "0-1/t2", "0", "0")

    def test_zero_reduced_and_simple_elements(self):
        for t, n in self.each_level():
            zero = t.field(n).zero()
            self.assertEqual(self.pure(hermite, t, n, zero), (zero, zero, zero))
            chance = random.Random(n)
            for _ in range(4):
                _, h, r = triple(chance, t, n, 1)
                self.assertEqual(hermite(t, n, r), (zero, zero, r))
                self.assertEqual(hermite(t, n, h), (zero, h, zero))

    def test_each_triple_comes_back(self):
        for t, n in self.each_level():
            chance = random.Random(10 + n)
            for most in (1, 2, 3) if n < 3 else (1, 2):
                for _ in range(3 if n < 3 else 1):
                    g, h, r = triple(chance, t, n, most)
                    f = together(t, n, g, h, r)
                    self.assertEqual(self.pure(hermite, t, n, f), (g, h, r))
                    self.assert_true(is_reduction(t, n, f, g, h, r))

    def test_other_elements(self):
        for t, n in self.each_level():
            chance = random.Random(20 + n)
            for _ in range(4 if n < 3 else 2):
                powers = [(p, chance.randint(1, 4 if n == 1 else 2))
                          for p in chance.sample(normal_polynomials(t, n), 2)]
                f = t.field(n).add(fraction(chance, t, n, powers), small_element(chance, n))
                g, h, r = self.pure(hermite, t, n, f)
                self.assertEqual(together(t, n, g, h, r), f)
                self.assert_true(is_proper(n, g))
                self.assertEqual(t.special_split(n, g[1])[1], g[1])
                self.assert_true(is_simple(t, n, h))
                self.assert_true(is_reduced(t, n, r))

    def test_poles_of_order_1_to_4(self):
        for k in (1, 2, 3, 4):
            for t, n, p in ((X, 1, "x-2"), (LOG, 2, "t2+x"), (EXP, 2, "t2-3")):
                f = el(n, f"1/({p})^{k}")
                g, h, r = hermite(t, n, f)
                self.assertEqual(together(t, n, g, h, r), f)
                self.assertEqual(len(g[1]), k)
                self.assertLessEqual(len(h[1]), 2)
        self.check(X, 1, "1/(x^2+1)^2", "x/(2*(x^2+1))", "1/(2*(x^2+1))", "0")
        self.check(X, 1, "1/(x-1)^2+1/(x-2)^3+1/(x-3)^4",
                   "0-1/(x-1)-1/(2*(x-2)^2)-1/(3*(x-3)^3)", "0", "0")

    def test_special_poles_stay_in_the_last_part(self):
        self.check(EXP, 2, "1/(t2^3*(t2+1))", "0", "0-1/(t2+1)", "1/t2^3-1/t2^2+1/t2")
        self.check(EXP, 2, "x*t2^-2+t2^2+1/t2", "0", "0", "x*t2^-2+t2^2+1/t2")


class IsReduction(HermiteCase):
    def test_each_property_is_needed(self):
        for t, n in self.each_level():
            field = t.field(n)
            chance = random.Random(30 + n)
            g, h, r = triple(chance, t, n, 2)
            f = together(t, n, g, h, r)
            self.assert_true(self.pure(is_reduction, t, n, f, g, h, r))
            x, one, zero = el(n, "x"), field.one(), field.zero()
            # The sum is another one.
            for other in (one, x, el(n, f"1/(t{n}+5)")):
                self.assert_false(self.pure(is_reduction, t, n, field.add(f, other), g, h, r))
            # g is not proper: a rational more in g changes nothing in the sum.
            self.assert_false(is_reduction(t, n, f, field.add(g, one), h, r))
            power = t.variable(n)
            change = t.derive(n, power)
            self.assert_false(is_reduction(
                t, n, f, field.add(g, power), h, field.subtract(r, change)))
            # h is not proper, or r is not reduced.
            self.assert_false(is_reduction(t, n, f, g, field.add(h, one), field.subtract(r, one)))
            part = el(n, f"1/(t{n}+7)")
            self.assert_false(is_reduction(t, n, f, g, field.add(h, part),
                                           field.subtract(r, part)))
            # h has a pole that is not simple.
            change = t.derive(n, part)
            self.assert_false(is_reduction(t, n, f, field.subtract(g, part),
                                           field.add(h, change), r))
            whole = field.subtract(f, r)
            self.assertIs(is_reduction(t, n, f, zero, whole, r), is_simple(t, n, whole))

    def test_special_poles_of_g_and_h(self):
        zero, part = el(2, "0"), el(2, "1/t2")
        self.assert_true(is_reduction(EXP, 2, part, zero, zero, part))
        self.assert_false(is_reduction(EXP, 2, part, el(2, "0-1/t2"), zero, zero))
        self.assert_false(is_reduction(EXP, 2, part, zero, part, zero))
        self.assert_false(is_reduction(EXP, 2, el(2, "1/(t2*(t2+1))"), zero,
                                       el(2, "1/(t2*(t2+1))"), zero))


class Kinds(HermiteCase):
    def test_zero_and_one(self):
        for t, n in self.each_level():
            zero, one = t.field(n).zero(), t.field(n).one()
            self.assert_true(self.pure(is_proper, n, zero))
            self.assert_true(self.pure(is_simple, t, n, zero))
            self.assert_true(self.pure(is_reduced, t, n, zero))
            self.assert_false(is_proper(n, one))
            self.assert_false(is_simple(t, n, one))
            self.assert_true(is_reduced(t, n, one))

    def test_polynomials_and_poles(self):
        for t, n in self.each_level():
            for text, proper, simple, reduced in (
                    (f"t{n}", False, False, True), (f"1/(t{n}+1)", True, True, False),
                    (f"t{n}/(t{n}+1)", False, False, False),
                    (f"1/(t{n}+1)^2", True, False, False),
                    (f"t{n}/((t{n}+1)*(t{n}-2))", True, True, False),
                    (f"t{n}^2/((t{n}+1)*(t{n}-2))", False, False, False),
                    (f"1/((t{n}+1)^3*(t{n}-2))", True, False, False)):
                e = el(n, text)
                self.assertIs(self.pure(is_proper, n, e), proper)
                self.assertIs(self.pure(is_simple, t, n, e), simple)
                self.assertIs(self.pure(is_reduced, t, n, e), reduced)

    def test_poles_at_the_variable(self):
        for t, n in self.each_level():
            special = t.kind(n) == "exp"
            for text in (f"1/t{n}", f"x/t{n}^2", f"1/(t{n}*(t{n}+1))", f"t{n}+1/t{n}^3"):
                e = el(n, text)
                poles = "+1)" in text
                square = "^" in text
                proper = not text.startswith("t")
                if n == 1 and text.startswith("x"):
                    square = False
                self.assertIs(is_proper(n, e), proper)
                self.assertIs(is_simple(t, n, e), not special and proper and not square)
                self.assertIs(is_reduced(t, n, e), special and not poles)

    def test_elements_of_the_level_below(self):
        for t, n in self.each_level():
            if n > 1:
                e = el(n, "1/x^2")
                self.assert_false(is_proper(n, e))
                self.assert_false(is_simple(t, n, e))
                self.assert_true(is_reduced(t, n, e))


if __name__ == "__main__":
    unittest.main()
