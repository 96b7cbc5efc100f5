"""Chapter 6: towers, their derivation, parts of their elements."""

import random
import unittest

from integraph.errors import Malformed, ZeroDivisor
from integraph.polynomial import degree, is_polynomial, padd, pmul, ppow, pscale
from integraph.tower import Tower
from tests.algebra import EXP, LEVELS, LOG, TOWERS, X, el, pol, q, rat, small_element, tower, unlike_levels
from tests.helpers import ODD_VALUES, PureCase, nested

ZERO = (0, 1)


def chance_over(chance, n, most):
    """Returns a polynomial over level n - 1 with small coefficients."""
    items = [small_element(chance, n - 1) for _ in range(chance.randint(0, most) + 1)]
    while items and LEVELS[n - 1].is_zero(items[-1]):
        items.pop()
    return tuple(items)


class TowerCase(PureCase):
    def each_level(self):
        for t, n in unlike_levels():
            with self.subTest(monomials=t.monomials()[:n]):
                yield t, n

    def drawn(self, count, n, seed=0):
        """Returns elements of level n: edges first."""
        chance = random.Random(100 * n + seed)
        found = [LEVELS[n].zero(), LEVELS[n].one()]
        return found + [small_element(chance, n) for _ in range(count)]


class Making(PureCase):
    def refuse(self, value):
        self.pure_raises(Malformed, Tower, value)

    def test_every_form_of_a_tower(self):
        for t in TOWERS:
            monomials = t.monomials()
            again = Tower(monomials)
            self.assertEqual(again.monomials(), monomials)
            self.assertEqual(again.height(), len(monomials))
        t = Tower((("x",), ("log", el(1, "x")), ("log", el(2, "x+1")), ("exp", el(3, "t3*t2/x"))))
        self.assertEqual(t.height(), 4)

    def test_an_argument_may_have_constant_and_logarithmic_parts(self):
        self.assertEqual(tower("exp x+1").height(), 2)
        self.assertEqual(tower("log x", "exp t2").height(), 3)
        self.assertEqual(tower("log x", "log x", "log 2*x").height(), 4)

    def test_values_of_other_kinds(self):
        for value in ODD_VALUES + (nested(60, tuple), nested(60, list), "x", ["x"]):
            self.refuse(value)
            self.refuse((value,))
            self.refuse((("x",), value))
            self.refuse((("x",), ("log", value)))
            self.refuse((("x",), ("exp", value)))
            self.refuse((("x",), (value, el(1, "x"))))

    def test_lists(self):
        u = el(1, "x")
        self.refuse([("x",)])
        self.refuse((["x"],))
        self.refuse((("x",), ["log", u]))
        self.refuse((("x",), ("log", list(u))))
        self.refuse((("x",), ("log", ([(0, 1), (1, 1)], ((1, 1),)))))

    def test_the_first_monomial_is_x_and_no_other_one(self):
        u = el(1, "x")
        self.refuse(())
        self.refuse((("log", u),))
        self.refuse((("x",), ("x",)))
        self.refuse((("x",), ("log", u), ("x",)))
        self.refuse((("y",),))
        self.refuse((("x", u),))
        self.refuse((("x",), ("x", u)))

    def test_unknown_kinds(self):
        u = el(1, "x")
        for kind in ("sin", "", "LOG", "Exp", None, 1, True, ("log",), ["log"], "logexp"):
            self.refuse((("x",), (kind, u)))
        self.refuse((("x",), ("log",)))
        self.refuse((("x",), ("log", u, u)))
        self.refuse((("x",), ("log", u, "exp", u)))

    def test_five_monomials(self):
        monomials = (("x",),) + tuple(("log", el(n, f"t{n}")) for n in range(1, 5))
        self.assertEqual(Tower(monomials[:4]).height(), 4)
        self.refuse(monomials)

    def test_an_argument_that_is_a_lifted_rational(self):
        for n in range(1, 4):
            monomials = (("x",),) + tuple(("log", el(k, f"t{k}")) for k in range(1, n))
            for kind in ("log", "exp"):
                for text in ("0", "1", "-1/3", "7"):
                    self.refuse(monomials + ((kind, el(n, text)),))

    def test_an_argument_that_is_no_element_of_its_level(self):
        self.refuse((("x",), ("log", el(2, "t2"))))
        self.refuse((("x",), ("log", rat(2))))
        self.refuse((("x",), ("log", el(1, "x")), ("exp", el(1, "x"))))
        self.refuse((("x",), ("log", (q(0, 2), q(2)))))
        self.refuse((("x",), ("log", (q(0, 1), q(0, 1)))))
        self.refuse((("x",), ("log", (((0, 1), (True, 1)), ((1, 1),)))))
        self.refuse((("x",), ("log", (((False, 1), (1, 1)), ((1, 1),)))))
        self.refuse((("x",), ("exp", el(1, "x")), True))

    def test_nothing_of_a_tower_changes(self):
        t = tower("log x", "exp t2*x")
        before = repr(vars(t))
        t.derive(3, el(3, "t3/(t3+t2)"))
        t.parts(3, el(3, "t3/(t3+t2)"))
        self.assertEqual(repr([v for v in vars(t).values() if isinstance(v, (list, dict, set))]),
                         "[]")
        self.assertEqual(repr(vars(t)), before)


class Fields(TowerCase):
    def test_levels_kinds_arguments(self):
        t = tower("log x+1", "exp x*t2", "log t3+x")
        self.assertEqual(self.pure(t.height), 4)
        self.assertEqual([t.kind(n) for n in (1, 2, 3, 4)], ["x", "log", "exp", "log"])
        self.assertEqual(self.pure(t.argument, 2), el(1, "x+1"))
        self.assertEqual(self.pure(t.argument, 4), el(3, "t3+x"))
        self.assertEqual(X.kind(1), "x")
        self.assertEqual(X.monomials(), (("x",),))
        for n in range(5):
            self.assertEqual(t.field(n).level(), n)
        for n in range(1, 5):
            self.assertEqual(self.pure(t.variable, n), el(n, f"t{n}"))
            self.assertEqual(t.field(n).base.level(), n - 1)

    def test_raise_and_lower(self):
        t = TOWERS[-1]
        for low in range(5):
            for e in self.drawn(4, low):
                for high in range(low, 5):
                    raised = self.pure(t.raise_to, e, low, high)
                    self.assert_true(t.field(high).is_element(raised))
                    self.assertEqual(self.pure(t.lower_to, raised, high, low), e)
                    for other in range(low, high):
                        self.assertEqual(t.lower_to(raised, high, other),
                                         t.raise_to(e, low, other))

    def test_lower_to_answers_none(self):
        t = TOWERS[-1]
        for high in range(1, 5):
            for low in range(high):
                for text in (f"t{high}", f"1/t{high}", f"x+t{high}"):
                    self.assertIsNone(self.pure(t.lower_to, el(high, text), high, low))
        self.assertIsNone(t.lower_to(el(4, "t2"), 4, 1))
        self.assertEqual(t.lower_to(el(4, "t2"), 4, 2), el(2, "t2"))
        self.assertIsNone(t.lower_to(el(4, "x"), 4, 0))
        self.assertEqual(t.lower_to(el(4, "2/3"), 4, 0), (2, 3))

    def test_ground(self):
        self.assertEqual(self.pure(LOG.ground, 2), el(1, "1/x"))
        self.assertEqual(self.pure(EXP.ground, 2), el(1, "1"))
        t = tower("log x^2+1", "exp x*t2", "log t3")
        self.assertEqual(t.ground(2), el(1, "2*x/(x^2+1)"))
        self.assertEqual(t.ground(3), el(2, "t2 + 2*x^2/(x^2+1)"))
        self.assertEqual(t.ground(4), el(3, "t2 + 2*x^2/(x^2+1)"))


class Derivation(TowerCase):
    def test_the_examples(self):
        self.assertEqual(self.pure(EXP.derive, 2, el(2, "1/t2")), el(2, "-1/t2"))
        self.assertEqual(EXP.derive(2, el(2, "t2^2+x")), el(2, "2*t2^2+1"))
        self.assertEqual(LOG.derive(2, el(2, "t2^2")), el(2, "2*t2/x"))
        self.assertEqual(X.derive_polynomial(1, ((0, 1), (0, 1), (1, 1))), ((0, 1), (2, 1)))

    def test_rationals_have_the_derivative_zero(self):
        for t in TOWERS:
            for number in (0, 1, "-2/3"):
                self.assertEqual(self.pure(t.derive, 0, rat(0)), ZERO)
                for n in range(t.height() + 1):
                    e = t.raise_to(q(number)[0], 0, n)
                    self.assertEqual(t.derive(n, e), t.field(n).zero())

    def test_variables(self):
        for t, n in self.each_level():
            found = self.pure(t.derive, n, t.variable(n))
            field = t.field(n)
            if n == 1:
                self.assertEqual(found, field.one())
                continue
            u = t.argument(n)
            change = t.derive(n - 1, u)
            if t.kind(n) == "log":
                self.assertEqual(found, field.lift(t.field(n - 1).divide(change, u)))
            else:
                self.assertEqual(found, field.multiply(field.lift(change), t.variable(n)))
            self.assertEqual(t.field(n - 1).multiply(
                t.ground(n), u if t.kind(n) == "log" else t.field(n - 1).one()), change)

    def test_sums_products_and_quotients(self):
        for t, n in self.each_level():
            field = t.field(n)
            some = self.drawn(5 if n < 3 else 3, n)
            for a in some:
                da = self.pure(t.derive, n, a)
                self.assert_true(field.is_element(da))
                for b in some:
                    db = t.derive(n, b)
                    self.assertEqual(t.derive(n, field.add(a, b)), field.add(da, db))
                    both = field.add(field.multiply(da, b), field.multiply(a, db))
                    self.assertEqual(t.derive(n, field.multiply(a, b)), both)
                    if not field.is_zero(b):
                        top = field.subtract(field.multiply(da, b), field.multiply(a, db))
                        self.assertEqual(t.derive(n, field.divide(a, b)),
                                         field.divide(top, field.multiply(b, b)))

    def test_lifted(self):
        for t, n in self.each_level():
            for e in self.drawn(4, n - 1):
                self.assertEqual(t.derive(n, t.field(n).lift(e)),
                                 t.field(n).lift(t.derive(n - 1, e)))

    def test_powers_of_exponentials_and_high_poles(self):
        self.assertEqual(EXP.derive(2, el(2, "t2^-7")), el(2, "-7*t2^-7"))
        self.assertEqual(EXP.derive(2, el(2, "1/(t2+1)^5")), el(2, "-5*t2/(t2+1)^6"))
        self.assertEqual(LOG.derive(2, el(2, "1/(t2+x)^3")), el(2, "-3*(1/x+1)/(t2+x)^4"))
        self.assertEqual(X.derive(1, el(1, "1/x^9")), el(1, "-9/x^10"))

    def test_derive_polynomial_against_derive(self):
        for t, n in self.each_level():
            chance = random.Random(n)
            base, one = t.field(n - 1), (t.field(n - 1).one(),)
            self.assertEqual(self.pure(t.derive_polynomial, n, ()), ())
            for _ in range(8):
                p = chance_over(chance, n, 3)
                found = self.pure(t.derive_polynomial, n, p)
                self.assert_true(is_polynomial(base, found))
                if p:
                    self.assertEqual(t.derive(n, t.field(n).fraction(p, one)),
                                     t.field(n).fraction(found, one))


class Specials(TowerCase):
    def test_constants_are_special_and_normal(self):
        for t, n in self.each_level():
            for e in self.drawn(3, n - 1):
                if not t.field(n - 1).is_zero(e):
                    self.assert_true(self.pure(t.is_special, n, (e,)))
                    self.assert_true(self.pure(t.is_normal, n, (e,)))

    def test_zero(self):
        for t, n in self.each_level():
            self.assert_false(self.pure(t.is_special, n, ()))
            self.assert_false(self.pure(t.is_normal, n, ()))
            self.pure_raises(ZeroDivisor, t.special_split, n, ())

    def test_powers_of_the_variable(self):
        for t, n in self.each_level():
            base = t.field(n - 1)
            for k in (1, 2, 3):
                p = (base.zero(),) * k + (base.rational((-2, 3)),)
                exponential = t.kind(n) == "exp"
                self.assertIs(self.pure(t.is_special, n, p), exponential)
                self.assertIs(self.pure(t.is_normal, n, p), not exponential and k == 1)

    def test_others(self):
        self.assert_true(EXP.is_normal(2, pol(2 - 1, "1", "1")))
        self.assert_false(EXP.is_normal(2, pol(1, "0", "1", "1")))
        self.assert_false(EXP.is_special(2, pol(1, "0", "1", "1")))
        self.assert_true(EXP.is_special(2, pol(1, "0", "0", "x")))
        self.assert_true(LOG.is_normal(2, pol(1, "x", "1")))
        self.assert_false(LOG.is_normal(2, pol(1, "x^2", "2*x", "1")))
        self.assert_false(LOG.is_special(2, pol(1, "x", "1")))
        self.assert_true(X.is_normal(1, q(-1, 0, 1)))
        self.assert_false(X.is_normal(1, q(1, 2, 1)))

    def test_special_split(self):
        for t, n in self.each_level():
            chance = random.Random(n)
            base = t.field(n - 1)
            one = (base.one(),)
            for _ in range(10):
                p = chance_over(chance, n, 2)
                if not p:
                    continue
                p = (base.zero(),) * chance.randint(0, 3) + p
                s, rest = self.pure(t.special_split, n, p)
                self.assertEqual(pmul(base, s, rest), p)
                if t.kind(n) != "exp":
                    self.assertEqual(s, one)
                else:
                    self.assertEqual(s, (base.zero(),) * degree(s) + one)
                    self.assertFalse(base.is_zero(rest[0]))

    def test_the_examples(self):
        self.assertEqual(EXP.special_split(2, pol(1, "0", "0", "1", "1")),
                         (pol(1, "0", "0", "1"), pol(1, "1", "1")))
        self.assertEqual(EXP.special_split(2, pol(1, "x")), (pol(1, "1"), pol(1, "x")))
        self.assertEqual(LOG.special_split(2, pol(1, "0", "1")), (pol(1, "1"), pol(1, "0", "1")))
        self.assertEqual(X.special_split(1, q(0, 2)), (q(1), q(0, 2)))


class Parts(TowerCase):
    def test_the_example(self):
        self.assertEqual(self.pure(EXP.parts, 2, el(2, "1/(t2*(t2+1))")),
                         (el(2, "1/t2"), el(2, "-1/(t2+1)")))

    def test_a_reduced_part_and_a_proper_one(self):
        for t, n in self.each_level():
            field, base = t.field(n), t.field(n - 1)
            some = self.drawn(8 if n < 3 else 5, n)
            some += [field.multiply(a, b) for a, b in zip(some[2:], some[3:])]
            for e in some:
                r, f = self.pure(t.parts, n, e)
                self.assertEqual(field.add(r, f), e)
                num, den = f
                self.assertLess(len(num), len(den))
                self.assert_true(field.is_element(r))
                self.assert_true(field.is_element(f))
                special = degree(r[1]) if t.kind(n) == "exp" else 0
                self.assertEqual(r[1], (base.zero(),) * special + (base.one(),))
                if t.kind(n) == "exp":
                    self.assertFalse(base.is_zero(den[0]))
                self.assertEqual(t.parts(n, r), (r, field.zero()))
                self.assertEqual(t.parts(n, f), (field.zero(), f))

    def test_zero_and_polynomials(self):
        for t, n in self.each_level():
            zero = t.field(n).zero()
            self.assertEqual(t.parts(n, zero), (zero, zero))
            e = el(n, f"t{n}^3-2*x")
            self.assertEqual(t.parts(n, e), (e, zero))
        self.assertEqual(EXP.parts(2, el(2, "x/t2^3+t2")), (el(2, "x/t2^3+t2"), el(2, "0")))
        self.assertEqual(LOG.parts(2, el(2, "x/t2^3+t2")), (el(2, "t2"), el(2, "x/t2^3")))

    def test_terms(self):
        self.assertEqual(self.pure(EXP.terms, 2, el(2, "x*t2^2 - 3 + 1/(x*t2^4)")),
                         ((2, el(1, "x")), (0, el(1, "-3")), (-4, el(1, "1/x"))))
        self.assertEqual(self.pure(LOG.terms, 2, el(2, "(x+1)*t2 + x")),
                         ((1, el(1, "x+1")), (0, el(1, "x"))))
        self.assertEqual(X.terms(1, el(1, "x^3-1/2")), ((3, (1, 1)), (0, (-1, 2))))
        for t, n in self.each_level():
            self.assertEqual(t.terms(n, t.field(n).zero()), ())

    def test_terms_of_what_is_not_reduced(self):
        for t, n in self.each_level():
            for text in (f"1/(t{n}+1)", f"t{n}^2+1/(t{n}-2)", f"1/(t{n}^2+t{n})"):
                self.pure_raises(Malformed, t.terms, n, el(n, text))
            if t.kind(n) != "exp":
                self.pure_raises(Malformed, t.terms, n, el(n, f"1/t{n}"))

    def test_from_terms_both_ways(self):
        for t, n in self.each_level():
            chance = random.Random(n)
            low = -4 if t.kind(n) == "exp" else 0
            for _ in range(8):
                powers = chance.sample(range(low, 6), chance.randint(0, 4))
                pairs = [(k, small_element(chance, n - 1)) for k in powers]
                pairs = [(k, c) for k, c in pairs if not t.field(n - 1).is_zero(c)]
                e = self.pure(t.from_terms, n, tuple(pairs))
                self.assert_true(t.field(n).is_element(e))
                self.assertEqual(self.pure(t.terms, n, e), tuple(sorted(pairs, reverse=True)))
                self.assertEqual(t.from_terms(n, tuple(reversed(pairs))), e)
                self.assertEqual(t.from_terms(n, t.terms(n, e)), e)

    def test_from_terms_adds_equal_powers(self):
        one, x = el(1, "1"), el(1, "x")
        self.assertEqual(EXP.from_terms(2, ((2, one), (-1, x), (2, x), (-1, one))),
                         el(2, "(x+1)*t2^2 + (x+1)/t2"))
        self.assertEqual(EXP.from_terms(2, ((2, x), (0, one), (2, el(1, "-x")))), el(2, "1"))
        self.assertEqual(LOG.from_terms(2, ((1, x), (1, el(1, "-x")))), el(2, "0"))
        self.assertEqual(EXP.from_terms(2, ((-5, x), (-5, el(1, "-x")), (-2, one))),
                         el(2, "1/t2^2"))
        self.assertEqual(X.from_terms(1, ((0, (1, 1)), (0, (1, 2)), (1, ZERO))), el(1, "3/2"))
        for t, n in self.each_level():
            self.assertEqual(t.from_terms(n, ()), t.field(n).zero())
            self.assertEqual(t.from_terms(n, ((3, t.field(n - 1).zero()),)), t.field(n).zero())

    def test_negative_powers(self):
        for t, n in self.each_level():
            one, zero = t.field(n - 1).one(), t.field(n - 1).zero()
            for terms in (((-1, one),), ((-1, zero),), ((2, one), (-3, zero)),
                          ((-1, one), (-1, t.field(n - 1).negative(one)))):
                if t.kind(n) == "exp":
                    self.assert_true(t.field(n).is_element(self.pure(t.from_terms, n, terms)))
                else:
                    self.pure_raises(Malformed, t.from_terms, n, terms)
        self.assertEqual(EXP.from_terms(2, ((-1, el(1, "0")),)), el(2, "0"))


class ConstantsAndLogarithms(TowerCase):
    def logarithms(self, t):
        return [l for l in range(2, t.height() + 1) if t.kind(l) == "log"]

    def test_the_example(self):
        e = el(2, "(x+1)*t2 + x")
        self.assertEqual(self.pure(LOG.log_part, 2, e, 2), (1, 1))
        self.assertEqual(self.pure(LOG.constant_part, 2, e), (0, 1))

    def test_constant_part(self):
        self.assertEqual(X.constant_part(0, (5, 7)), (5, 7))
        self.assertEqual(X.constant_part(1, el(1, "x^2+3*x-4/5")), (-4, 5))
        self.assertEqual(X.constant_part(1, el(1, "(x+1)/x")), (1, 1))
        self.assertEqual(X.constant_part(1, el(1, "1/x")), (0, 1))
        self.assertEqual(EXP.constant_part(2, el(2, "t2 + (2*x+1)/x + 5/t2")), (2, 1))
        self.assertEqual(EXP.constant_part(2, el(2, "1/(t2*(t2+1))")), (0, 1))
        self.assertEqual(EXP.constant_part(2, el(2, "t2/(t2+1)")), (1, 1))
        self.assertEqual(LOG.constant_part(2, el(2, "t2*(3/2) + 7 + 1/t2")), (7, 1))
        t = TOWERS[-1]
        self.assertEqual(t.constant_part(4, el(4, "t4 + t3 + t2 + x + 3 + 1/t4^2")), (3, 1))

    def test_log_part(self):
        t = tower("log x", "log t2", "exp x*t2")
        e = el(4, "t4*t2 + 3*t2 - (2/3)*t3 + t2*t3 + t2^2 + 1/t4 + t2/x")
        self.assertEqual(self.pure(t.log_part, 4, e, 2), (3, 1))
        self.assertEqual(self.pure(t.log_part, 4, e, 3), (-2, 3))
        self.assertEqual(t.log_part(4, el(4, "(1+1/x)*t2 + (5+x)*t3"), 2), (1, 1))
        self.assertEqual(t.log_part(4, el(4, "(1+1/x)*t2 + (5+x)*t3"), 3), (5, 1))
        self.assertEqual(t.log_part(2, el(2, "4*t2"), 3), (0, 1))
        self.assertEqual(t.log_part(0, (1, 1), 2), (0, 1))

    def test_variables_of_logarithms(self):
        for t in TOWERS:
            for l in self.logarithms(t):
                for n in range(l, t.height() + 1):
                    e = t.raise_to(t.variable(l), l, n)
                    self.assertEqual(t.constant_part(n, e), ZERO)
                    for k in self.logarithms(t):
                        self.assertEqual(t.log_part(n, e, k), (1, 1) if k == l else ZERO)

    def test_both_are_linear(self):
        for t, n in self.each_level():
            field = t.field(n)
            some = self.drawn(6 if n < 3 else 4, n, 1)
            some.append(el(n, f"5/2 + 3*t{n} + 4*t{max(n - 1, 1)} - t1/7"))
            parts = [lambda e: t.constant_part(n, e)]
            parts += [lambda e, l=l: t.log_part(n, e, l) for l in self.logarithms(t)]
            for part in parts:
                for a in some:
                    for b in some:
                        total = LEVELS[0].add(part(a), part(b))
                        self.assertEqual(part(field.add(a, b)), total)
                    for number in ("0", "-1", "3/7"):
                        factor = el(n, number)
                        self.assertEqual(part(field.multiply(factor, a)),
                                         LEVELS[0].multiply(el(0, number), part(a)))

    def test_levels_that_are_no_logarithms(self):
        for t in TOWERS:
            for n in range(t.height() + 1):
                e = t.field(n).zero()
                for l in (-10 ** 20, -2, -1, 0, 1, 2, 3, 4, 5, 6, 100, 10 ** 20):
                    if l in self.logarithms(t):
                        self.assertEqual(t.log_part(n, e, l), ZERO)
                    else:
                        self.pure_raises(Malformed, t.log_part, n, e, l)


class NormalTowers(TowerCase):
    def test_normal(self):
        for t in TOWERS:
            self.assert_true(self.pure(t.is_normal_tower))
        for texts in (["log x+7"], ["log 3*x"], ["log x", "exp (x^2+x)*t2"], ["exp 1/x"],
                      ["log x", "log t2+3", "exp t2^2 + t3^2 + x"]):
            self.assert_true(tower(*texts).is_normal_tower())

    def test_not_normal(self):
        for texts in (["exp x+1"], ["exp x-2/3", "log x"], ["log x", "exp t2"],
                      ["log x", "exp 2*t2+x"], ["log x", "exp (x+1)*t2 + x/2 + t2^2 - 1"],
                      ["exp x", "exp t2+1/2"], ["exp x", "log t2+1", "exp x+(1/3)*t3"],
                      ["log x", "log t2", "exp x*t3 + t2"], ["log x", "exp x", "exp (x+1)/x"]):
            self.assert_false(self.pure(tower(*texts).is_normal_tower))


class Polynomials(TowerCase):
    def test_the_derivative_of_a_power(self):
        for t, n in self.each_level():
            base = t.field(n - 1)
            p = pol(n - 1, "-3", "2", "1")
            cube = ppow(base, p, 3)
            wanted = pscale(base, pmul(base, ppow(base, p, 2), t.derive_polynomial(n, p)),
                            base.rational((3, 1)))
            self.assertEqual(t.derive_polynomial(n, cube), wanted)
            total = padd(base, cube, p)
            self.assertEqual(t.derive_polynomial(n, total),
                             padd(base, wanted, t.derive_polynomial(n, p)))


if __name__ == "__main__":
    unittest.main()
