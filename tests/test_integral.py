"""Chapter 13, points 13.6 to 13.9, and of point 0.4 the facts of `integrate`."""

import random
import unittest

from integraph.answers import derivative, is_answer, raise_answer, rational_log
from integraph.build import build, is_tower
from integraph.divisor import psolve
from integraph.equation import refutes
from integraph.hermite import is_reduced, is_reduction
from integraph.integral import holds, integrate
from integraph.limited import limited
from integraph.polynomial import padd, pformal, pmul
from integraph.printing import parse
from integraph.residues import logarithms
from tests.algebra import (
    EXP, EXP_EXP, EXP_LOG, HIGH, LOG, LOG_EXP, LOG_LOG, TOWERS, X, chance_answer, el, lift,
    multiplied, pol, q, rat, small_element, tower, unlike_levels)
from tests.helpers import ODD_VALUES, PureCase, nested


class IntegralCase(PureCase):
    def each_level(self):
        for t, n in unlike_levels():
            with self.subTest(monomials=t.monomials()[:n]):
                yield t, n

    def solved(self, t, n, f):
        """Returns what integrate returns, after the checks that hold for every result."""
        result = self.pure(integrate, t, n, f)
        self.assertEqual(len(result), 2)
        kind, found = result
        if kind == "found":
            self.assert_true(is_answer(t, n, found))
            self.assertEqual(derivative(t, n, found), f)
            self.assert_true(self.pure(holds, t, n, f, found))
        else:
            self.assertEqual(kind, "refused")
            self.check_data(t, n, f, found)
        return result

    def check_data(self, t, n, f, data):
        """Each part of the data by points 13.6 and 13.7."""
        if n == 0:
            self.assertEqual(data, ("constant",))
            self.assertNotEqual(f, (0, 1))
        elif data[0] == "residue":
            self.check_residue(t, n, f, data)
        else:
            self.assertEqual((data[0], len(data)), ("part", 4))
            self.check_part(t, n, f, data)

    def check_residue(self, t, n, f, data):
        base = t.field(n - 1)
        _, reduction, (u, v), (s, w) = data
        self.assert_true(is_reduction(t, n, f, *reduction))
        self.assertIsNone(logarithms(t, n, reduction[1]))
        d = reduction[1][1]
        one = (base.one(),)
        slope, formal = t.derive_polynomial(n, d), pformal(base, d)
        self.assertEqual(padd(base, pmul(base, u, d), pmul(base, v, slope)), one)
        self.assertEqual(padd(base, pmul(base, s, d), pmul(base, w, formal)), one)
        self.assertEqual(psolve(base, d, slope, one), (u, v))
        self.assertEqual(psolve(base, d, formal, one), (s, w))

    def check_part(self, t, n, f, data):
        field = t.field(n)
        _, answer, p, stop = data
        self.assertGreater(n, 1)
        self.assert_true(is_answer(t, n, answer))
        self.assertTrue(is_reduced(t, n, p))
        self.assertEqual(field.add(derivative(t, n, answer), p), f)
        word, inner = stop[0], stop[-1]
        if word == "power":
            _, j, e, _ = stop
            self.assertEqual(t.kind(n), "exp")
            self.assertNotEqual(j, 0)
            self.assertEqual(dict(t.terms(n, p))[j], e)
            w = multiplied(t.field(n - 1), t.argument(n), (j, 1))
            self.assert_true(refutes(t, n - 1, w, e, inner))
        elif word == "lead":
            _, q_, j, e, _ = stop
            self.assertEqual(t.kind(n), "log")
            self.assertGreaterEqual(j, 1)
            rest = field.subtract(p, t.derive(n, q_))
            self.assertEqual(t.terms(n, rest)[0], (j, e))
            self.assertEqual(limited(t, n - 1, e, (t.argument(n),)), ("refused", inner))
        else:
            self.assertEqual(word, "ground")
            _, q_, e, _ = stop
            self.assertEqual(field.subtract(p, t.derive(n, q_)), field.lift(e))
            self.assertEqual(integrate(t, n - 1, e), ("refused", inner))
            self.check_data(t, n - 1, e, inner)

    def check(self, t, n, f, part, logs=()):
        self.assertEqual(self.solved(t, n, el(n, f)), ("found", (el(n, part), logs)))

    def refused(self, t, n, f, *words):
        kind, data = self.solved(t, n, el(n, f))
        self.assertEqual(kind, "refused", f)
        found = []
        while data and isinstance(data[0], str):
            found.append(data[0])
            data = data[-1] if isinstance(data[-1], tuple) and data[0] != "residue" else ()
        self.assertEqual(found[:len(words)], list(words))
        return kind

    def text(self, text):
        """Returns the tower of a text, its height, and the element."""
        t, (f,), witness = build((parse(text),))
        self.assertTrue(is_tower(t.monomials(), witness))
        return t, t.height(), f


class Examples(IntegralCase):
    def test_over_x(self):
        self.check(X, 1, "1/(x^2+1)", "0", ((q("1/4", 0, 1), pol(1, "x", "2")),))
        self.check(X, 1, "x^2+1/x^2", "x^3/3-1/x")
        self.check(X, 1, "0", "0")
        self.check(X, 1, "3/x", "0", ((q(-3, 1), pol(1, "x")),))

    def test_over_a_logarithm(self):
        self.check(LOG, 2, "t2", "x*t2-x")
        self.check(LOG, 2, "t2/x", "t2^2/2")
        self.refused(LOG, 2, "1/t2", "residue")
        _, data = integrate(LOG, 2, el(2, "1/t2"))
        zero = el(2, "0")
        self.assertEqual(data, ("residue", (zero, el(2, "1/t2"), zero),
                                ((), pol(1, "x")), ((), pol(1, "1"))))

    def test_over_an_exponential(self):
        _, data = self.solved(EXP, 2, el(2, "t2/x"))
        self.assertEqual(data, ("part", (el(2, "0"), ()), el(2, "t2/x"),
                                ("power", 1, el(1, "1/x"), ("simple", el(1, "0")))))
        self.check(EXP, 2, "1/(t2+1)", "x", ((q(1, 1), pol(2, "t2+1")),))


class LevelZero(IntegralCase):
    def test_zero_and_others(self):
        for t in TOWERS:
            self.assertEqual(self.solved(t, 0, (0, 1)), ("found", ((0, 1), ())))
            for f in ((1, 1), (-3, 7), (10 ** 50, 3)):
                self.assertEqual(self.solved(t, 0, f), ("refused", ("constant",)))


class OverX(IntegralCase):
    def test_every_element_has_an_integral(self):
        chance = random.Random(1)
        texts = ["1/(x^3-2)", "x^5/(x^2-1)^3", "(x+1)/(x^4+x+1)", "1/(x^2*(x-1)*(x^2+2)^2)",
                 "7", "x^30", "1/(x^5-1)"]
        for f in [el(1, text) for text in texts] + [small_element(chance, 1) for _ in range(30)]:
            self.assertEqual(self.solved(X, 1, f)[0], "found")

    def test_over_greater_towers_too(self):
        for t in TOWERS:
            kind, found = self.solved(t, 1, el(1, "x^2/(x^2+3)"))
            self.assertEqual((kind, found), integrate(X, 1, el(1, "x^2/(x^2+3)")))


class Derivatives(IntegralCase):
    def test_of_drawn_answers(self):
        chance = random.Random(41)
        for t, n in self.each_level():
            for _ in range(14 if n < 3 else 7):
                answer = chance_answer(chance, t, n)
                self.assertEqual(self.solved(t, n, derivative(t, n, answer))[0], "found")

    def test_of_answers_over_lower_levels(self):
        chance = random.Random(42)
        for t in TOWERS:
            n = t.height()
            for low in range(1, n):
                answer = chance_answer(chance, t, low)
                f = lift(derivative(t, low, answer), low, n)
                self.assertEqual(self.solved(t, n, f)[0], "found")
                raised = raise_answer(t, answer, low, n)
                self.assert_true(self.pure(holds, t, n, f, raised))

    def test_of_kernels_and_their_logarithms(self):
        for t in TOWERS:
            n = t.height()
            for k in range(1, n + 1):
                e = lift(t.variable(k), k, n)
                for text in ("t{0}", "t{0}^3", "1/t{0}", "1/(t{0}-1)^2", "x*t{0}^2-t{0}"):
                    f = t.derive(n, el(n, text.format(k)))
                    self.assertEqual(self.solved(t, n, f)[0], "found")
                for c in ("2", "-1/3"):
                    answer = rational_log(t, n, rat(c), t.field(n).add(e, t.field(n).one()))
                    self.assertEqual(self.solved(t, n, derivative(t, n, answer))[0], "found")


class Drawn(IntegralCase):
    def test_drawn_elements(self):
        chance = random.Random(43)
        words = set()
        for t, n in self.each_level():
            for _ in range(14 if n < 3 else 8):
                kind, data = self.solved(t, n, small_element(chance, n))
                if n > 1:
                    words.add((kind, data[0] if kind == "refused" else None))
        self.assertEqual(len(words), 3)

    def test_raised_elements(self):
        # Over more kernels there are more answers, so what is found stays found.
        chance = random.Random(44)
        for t in TOWERS:
            n = t.height()
            for low in range(1, n):
                f = small_element(chance, low)
                kind, _ = self.solved(t, low, f)
                raised, _ = self.solved(t, n, lift(f, low, n))
                self.assertFalse((kind, raised) == ("found", "refused"))
        self.assertEqual(integrate(LOG_LOG, 2, el(2, "1/(t2*(x+1))"))[0], "found")
        self.assertEqual(integrate(LOG_LOG, 3, el(3, "1/(t2*(x+1))"))[0], "found")


class Refusals(IntegralCase):
    def test_residue(self):
        for t, n, f in ((LOG, 2, "1/t2"), (LOG, 2, "x+1/(t2^2+x)"), (LOG, 2, "1/t2^2"),
                        (EXP, 2, "x/(t2+1)"), (EXP, 2, "t2+1/(t2^2-x)"), (EXP_LOG, 3, "1/t3"),
                        (EXP_EXP, 3, "1/(t3+t2)"), (HIGH, 4, "x/(t4-1)^2"),
                        (LOG_LOG, 3, "t2/t3")):
            self.refused(t, n, f, "residue")

    def test_lead(self):
        self.refused(LOG, 2, "t2/(x+1)", "part", "lead", "apart")
        self.refused(LOG, 2, "t2^3/x+t2/(x^2+1)+1/(x*t2)", "part", "lead", "apart")
        self.refused(EXP_LOG, 3, "t3/x", "part", "lead", "below", "ground", "apart")
        self.refused(LOG_LOG, 3, "t3/t2", "part", "lead", "apart")
        _, data = self.solved(LOG, 2, el(2, "t2^3+t2^2/(x+1)+2/(x*t2)"))
        self.assertEqual(data[1], (el(2, "0"), ((q(-2, 1), pol(2, "t2")),)))
        self.assertEqual(data[2], el(2, "t2^3+t2^2/(x+1)"))
        self.assertEqual(data[3][:4],
                         ("lead", el(2, "x*t2^3"), 2, el(1, "0-3+1/(x+1)")))

    def test_power(self):
        self.refused(EXP, 2, "t2/x", "part", "power", "simple")
        self.refused(EXP, 2, "1/(t2+1)+t2/(t2^2-2)+1/(x*t2)", "part", "power", "simple")
        self.refused(tower("exp x^2"), 2, "t2", "part", "power", "range")
        self.refused(EXP_EXP, 3, "t3", "part", "power", "range")
        self.refused(LOG_EXP, 3, "t2*t3", "part", "power", "below", "simple")
        self.refused(tower("log x", "exp x*t2"), 3, "t3", "part", "power", "range")
        _, data = self.solved(EXP, 2, el(2, "t2^3+t2/x+1/(t2*x)+1/(t2+1)"))
        self.assertEqual(data[3][:3], ("power", 1, el(1, "1/x")))
        # The rest of the logarithm is 1.
        self.assertEqual(data[1], (el(2, "0"), ((q(1, 1), pol(2, "t2+1")),)))
        self.assertEqual(data[2], el(2, "t2^3+t2/x+1/(t2*x)+1"))

    def test_ground(self):
        self.refused(EXP_LOG, 3, "t2/x+t3*t2", "part", "ground", "part", "power", "simple")
        self.refused(LOG_EXP, 3, "1/t2+t3", "part", "ground", "residue")
        self.refused(HIGH, 4, "t2/(x+1)", "part", "ground", "part", "ground", "part", "lead",
                     "apart")
        _, data = self.solved(LOG_EXP, 3, el(3, "1/t2+t3*x"))
        self.assertEqual(data[3][:3], ("ground", el(3, "(x-1)*t3"), el(2, "1/t2")))


class Families(IntegralCase):
    def check_family(self, text, wanted):
        """The text has an integral exactly if wanted; also with a derivative added."""
        t, n, f = self.text(text)
        self.assertEqual(self.solved(t, n, f)[0], "found" if wanted else "refused", text)
        more = t.derive(n, el(n, f"x^2*t{n}+1/(t{n}+x)-t{n}^2"))
        self.assertEqual(self.solved(t, n, t.field(n).add(f, more))[0],
                         "found" if wanted else "refused", text)

    def test_exponentials_of_multiples_of_x(self):
        for b in ("1", "-2", "3/2"):
            for p in ("1", "x", "x^3-2*x+5", "(x-1)^2"):
                self.check_family(f"({p})*exp({b}*x)", True)
                for k in (0, 1, -2):
                    self.check_family(f"({p})*exp({b}*x) + exp({b}*x)/(x + {k})"
                                      .replace("+ -", "- "), False)

    def test_the_exponential_of_the_square(self):
        for m in range(0, 8):
            self.check_family(f"x^{m}*exp(x^2)", m % 2 == 1)
            self.check_family(f"x^{m}*exp(-x^2)", m % 2 == 1)

    def test_logarithms(self):
        for a in (0, 1, 3):
            for b in (0, 1, 2):
                for j in (1, 2, 3):
                    self.check_family(f"log(x + {a})^{j}/(x + {b})", a == b)
        for j in (1, 2, 4):
            self.check_family(f"1/log(x + 2)^{j}", False)
            self.check_family(f"1/((x + 2)*log(x + 2)^{j})", True)
            self.check_family(f"log(x + 2)^{j}", True)

    def test_the_exponential_of_the_inverse(self):
        for m in range(-6, 5):
            self.check_family(f"x^{m}*exp(1/x)", m <= -2)

    def test_known_integrals(self):
        for text in ("log(x)*exp(x) + exp(x)/x", "exp(x*log(x))*(log(x) + 1)", "1/(x*log(x))",
                     "1/(x*log(x)*log(log(x)))", "exp(x)/(exp(2*x) + 1)", "exp(exp(x) + x)",
                     "(2*x*log(x) + x)*exp(x^2*log(x))", "log(x)/(x*(log(x)^2 + 1))",
                     "log(exp(x) + 1)*exp(x)", "x/(x^2 + 1)*log(x^2 + 1)",
                     "exp(log(x)^2)*2*log(x)/x", "1/(exp(x) + 2)", "log(log(x))/x"):
            t, n, f = self.text(text)
            self.assertEqual(self.solved(t, n, f)[0], "found", text)
        for text in ("exp(exp(x))", "exp(x*log(x))", "log(log(x))", "exp(x)/x", "1/log(x)",
                     "log(exp(x) + 1)", "exp(log(x)^2)", "log(x)/(x + 1)", "x/(exp(x) + 1)",
                     "exp(x)*log(x)", "1/(log(x) + x)", "exp(1/x)/x", "log(x)*log(log(x))",
                     "exp(x^2 + log(x)^2)", "1/(x + exp(x))", "exp(exp(exp(x)))"):
            t, n, f = self.text(text)
            self.assertEqual(self.solved(t, n, f)[0], "refused", text)


class Holds(IntegralCase):
    def test_answers(self):
        chance = random.Random(51)
        for t, n in self.each_level():
            field = t.field(n)
            for _ in range(4):
                answer = chance_answer(chance, t, n)
                f = derivative(t, n, answer)
                self.assert_true(self.pure(holds, t, n, f, answer))
                more = (field.add(answer[0], field.rational((5, 2))), answer[1])
                self.assert_true(holds(t, n, f, more))
                other = (field.add(answer[0], field.variable()), answer[1])
                self.assert_false(self.pure(holds, t, n, f, other))
                self.assert_false(holds(t, n, field.add(f, field.one()), answer))
                again = (answer[0], answer[1] + ((q(-1, 1), (field.variable(),)),))
                self.assertIs(holds(t, n, f, again), derivative(t, n, again) == f)

    def test_values_that_are_no_answers(self):
        f = el(1, "2*x")
        good = (el(1, "x^2"), ())
        self.assert_true(holds(X, 1, f, good))
        part = good[0]
        for value in ODD_VALUES + (
                list(good), (list(part), ()), (part, []), (part,), (part, (), ()), part, (part, None),
                (part, ((),)), ("found", good), (el(2, "x^2"), ()), (el(0, "2"), ()),
                (part, ((q(0, 1), pol(1, "x")),)), (part, ((q(-1, 1), ()),)),
                (part, ((q(-1, 2), pol(1, "1")),)), (part, ((q(-1, 1), pol(1, "1", "1")),)),
                (part, [(q(-1, 1), pol(1, "1"))]), (part, ((q(1, -2, 1), pol(1, "1")),)),
                nested(60, tuple), nested(60, list)):
            self.assert_false(self.pure(holds, X, 1, f, value))
        self.assert_true(holds(X, 1, f, (part, ((q(-1, 1), pol(1, "1")),))))

    def test_level_zero(self):
        self.assert_true(holds(X, 0, (0, 1), ((5, 3), ())))
        self.assert_false(holds(X, 0, (1, 1), ((5, 3), ())))
        self.assert_false(holds(X, 0, (0, 1), ((0, 2), ())))
        self.assert_true(holds(X, 0, (0, 1), ((0, 1), ((q(-1, 1), ((2, 1),)),))))


if __name__ == "__main__":
    unittest.main()
