"""Chapter 14: the checker of certificates; and point 0.4, fact 3."""

import random
import unittest

from integraph.answers import derivative
from integraph.checker import accepts, accepts_limited
from integraph.divisor import psolve
from integraph.equation import refutes
from integraph.hermite import hermite
from integraph.integral import integrate
from integraph.limited import limited
from integraph.polynomial import padd, pformal, pmul, pneg
from integraph.residues import logarithms
from integraph.vectors import combination, is_apart
from tests.algebra import (
    EXP, EXP_EXP, EXP_LOG, HIGH, LOG, LOG_EXP, LOG_LOG, TOWERS, X, chance_answer, el, lift, pol, q,
    small_element, tower, unlike_levels)
from tests.helpers import ODD_VALUES, PureCase, nested, some_spoiled


# A tower, a level and an element without an integral.
INTEGRALS = (
    (LOG, 2, "1/t2"), (LOG, 2, "x+1/t2^2+1/(x*t2)"), (LOG, 2, "t2/(x+1)"),
    (LOG, 2, "t2^3+t2^2/(x+1)+2/(x*t2)"), (EXP, 2, "t2/x"), (EXP, 2, "x/(t2+1)"),
    (EXP, 2, "t2^3+t2/x+1/(t2*x)+1/(t2+1)"), (tower("exp x^2"), 2, "t2"),
    (tower("exp 1/x"), 2, "t2"), (EXP_LOG, 3, "t3/x"), (EXP_LOG, 3, "t2/x+t3*t2"),
    (LOG_LOG, 3, "t3*t2/x"), (LOG_EXP, 3, "t2*t3"), (LOG_EXP, 3, "1/t2+t3*x"),
    (EXP_EXP, 3, "t3"), (EXP_EXP, 3, "1/(t3+t2)"), (HIGH, 4, "t2/(x+1)"), (HIGH, 4, "x*t4/t3"),
    (HIGH, 4, "1/(t4+1)+t3/t2"))
# A tower, a level, an element and elements with which it has no limited integral.
LIMITED = (
    (X, 1, "1/x", ()), (X, 1, "1/(x+2)", ("x", "x+1")), (X, 1, "1/(x^2+1)", ("x", "x^2+1")),
    (LOG, 2, "1/t2", ("t2",)), (LOG, 2, "t2/(x+1)", ()),
    (LOG, 2, "t2^2/(x+1)+1/(x*t2)", ("t2", "(x+2)*t2^2")), (LOG, 2, "1/(x+1)", ("(x+2)*t2", "t2")),
    (LOG, 2, "1/(x+5)+t2^2/x+2/(x*t2)", ("(x+1)*t2", "(x+2)/t2^3")),
    (EXP, 2, "t2/x", ()), (EXP, 2, "x/t2+t2^2/(x+1)+t2/(t2-1)", ("t2-1", "x")),
    (EXP, 2, "1/x+1/(t2+1)+t2", ("(x+1)*(t2+1)", "x+3", "(x+2)^5*t2^2*(t2+1)^2", "t2-7")),
    (EXP_LOG, 3, "t2*t3^2/x", ("t3",)), (EXP_LOG, 3, "t3/x", ("t3+1", "t3-1")),
    (LOG_LOG, 3, "1/t2", ("t3", "x+5")), (LOG_EXP, 3, "t2*t3", ("t3+1",)),
    (HIGH, 4, "t2/(x+1)", ("t4-1",)), (HIGH, 4, "1/(t4+1)", ("t4-1", "x", "t3+1")))


class CheckerCase(PureCase):
    def each_integral(self):
        for t, n, text in INTEGRALS:
            with self.subTest(monomials=t.monomials(), f=text):
                f = el(n, text)
                kind, data = integrate(t, n, f)
                self.assertEqual(kind, "refused")
                yield t, n, f, data

    def each_limited(self):
        for t, n, text, us in LIMITED:
            with self.subTest(monomials=t.monomials(), g=text, us=us):
                g, us = el(n, text), tuple(el(n, u) for u in us)
                kind, data = limited(t, n, g, us)
                self.assertEqual(kind, "refused")
                yield t, n, g, us, data


def changed(value, at, new):
    """Returns the tuple with another item at the end of the path of indexes."""
    first, *rest = at
    if rest:
        new = changed(value[first], rest, new)
    return value[:first] + (new,) + value[first + 1:]


class Examples(CheckerCase):
    def test_residue(self):
        zero, one = el(2, "0"), pol(1, "1")
        f = el(2, "1/t2")
        data = ("residue", (zero, f, zero), ((), pol(1, "x")), ((), one))
        self.assert_true(self.pure(accepts, LOG, 2, f, data))
        f = el(2, "1/(x*t2)")
        data = ("residue", (zero, f, zero), ((), pol(1, "x")), ((), one))
        self.assert_false(self.pure(accepts, LOG, 2, f, data))

    def test_part(self):
        f, zero = el(2, "t2/x"), el(2, "0")
        for power in (1, 2, -1, 0):
            stop = ("power", power, el(1, "1/x"), ("simple", el(1, "0")))
            found = self.pure(accepts, EXP, 2, f, ("part", (zero, ()), f, stop))
            self.assertIs(found, power == 1)

    def test_constant(self):
        for t in TOWERS:
            self.assert_true(self.pure(accepts, t, 0, (1, 1), ("constant",)))
            self.assert_true(accepts(t, 0, (-5, 7), ("constant",)))
            self.assert_false(self.pure(accepts, t, 0, (0, 1), ("constant",)))
            for n in range(1, t.height() + 1):
                for text in ("1", "0", "x"):
                    self.assert_false(accepts(t, n, el(n, text), ("constant",)))
        zero, one = (0, 1), (1, 1)
        for value in (("residue", (zero, zero, one), ((one,), ()), ((one,), ())),
                      ("part", (zero, ()), one, ("ground", zero, one, ("constant",))),
                      ("part", (zero, ()), one, ("power", 1, one, ("simple", zero)))):
            self.assert_false(accepts(X, 0, one, value))
        for value in (["constant"], ("constant", 1), ("constants",), "constant", ((),), ()):
            self.assert_false(accepts(X, 0, (1, 1), value))


class Refusals(CheckerCase):
    def test_refusals_of_integrate(self):
        for t, n, f, data in self.each_integral():
            self.assert_true(self.pure(accepts, t, n, f, data))

    def test_refusals_of_limited(self):
        for t, n, g, us, data in self.each_limited():
            self.assert_true(self.pure(accepts_limited, t, n, g, us, data))

    def test_refusals_of_drawn_elements(self):
        chance = random.Random(61)
        for t, n in unlike_levels():
            for _ in range(8):
                f = small_element(chance, n)
                kind, data = integrate(t, n, f)
                if kind == "refused":
                    self.assert_true(self.pure(accepts, t, n, f, data))
                if n < t.height() and t.kind(n + 1) == "log":
                    us = (t.argument(n + 1),)
                    result = limited(t, n, f, us)
                    if result[0] == "refused":
                        self.assert_true(self.pure(accepts_limited, t, n, f, us, result[1]))

    def test_not_for_another_element(self):
        chance = random.Random(62)
        for t, n, f, data in self.each_integral():
            field = t.field(n)
            for _ in range(4):
                step = small_element(chance, n)
                if not field.is_zero(step):
                    self.assert_false(accepts(t, n, field.add(f, step), data))
            self.assert_false(accepts(t, n, field.zero(), data))
            self.assert_false(accepts(t, n, field.negative(f), data))
        for t, n, g, us, data in self.each_limited():
            field = t.field(n)
            for _ in range(4):
                step = small_element(chance, n)
                if not field.is_zero(step):
                    self.assert_false(accepts_limited(t, n, field.add(g, step), us, data))
            self.assert_false(accepts_limited(t, n, field.zero(), us, data))

    def test_not_for_other_elements_us(self):
        for t, n, g, us, data in self.each_limited():
            self.assert_false(accepts_limited(t, n, g, us + (el(n, "x+9"),), data))
            if us:
                self.assert_false(accepts_limited(t, n, g, us[1:], data))
                squares = tuple(t.field(n).power(u, 2) for u in us)
                self.assert_false(accepts_limited(t, n, g, squares, data))
                scaled = tuple(t.field(n).multiply(u, t.field(n).rational((5, 3))) for u in us)
                self.assert_true(accepts_limited(t, n, g, scaled, data))

    def test_not_at_another_level(self):
        f = el(2, "1/t2")
        _, data = integrate(LOG_LOG, 2, el(2, "1/(x+t2)"))
        self.assert_false(accepts(LOG_LOG, 3, el(3, "1/(x+t2)"), data))
        self.assert_false(accepts(LOG_LOG, 1, el(1, "x"), data))
        self.assert_false(accepts(LOG_LOG, 0, (1, 1), data))
        _, data = integrate(LOG, 2, f)
        self.assert_false(accepts(EXP, 2, f, data))

    def test_parts_of_another_form(self):
        chance = random.Random(63)
        for t, n, f, data in self.each_integral():
            for other in some_spoiled(chance, data, 60):
                self.assert_false(accepts(t, n, f, other))
        for t, n, g, us, data in self.each_limited():
            for other in some_spoiled(chance, data, 60):
                self.assert_false(accepts_limited(t, n, g, us, other))


class ResidueParts(CheckerCase):
    def setUp(self):
        self.f = el(2, "t2+1/t2^2+x/(t2+1)+1/(x*t2)")
        _, self.data = integrate(LOG, 2, self.f)
        self.assertEqual(self.data[0], "residue")

    def told(self, at, new):
        return accepts(LOG, 2, self.f, changed(self.data, at, new))

    def test_another_reduction(self):
        for at in range(3):
            for step in ("1", "x", "t2", "1/t2", "1/(t2+1)"):
                new = LOG.field(2).add(self.data[1][at], el(2, step))
                self.assert_false(self.told((1, at), new))
        big, simple, reduced = self.data[1]
        field = LOG.field(2)
        # The sum is right, but the parts are not those of the reduction.
        step = el(2, "1/x")
        other = (big, field.add(simple, step), field.subtract(reduced, step))
        self.assert_false(self.told((1,), other))
        other = (field.add(big, el(2, "t2")), simple, field.subtract(reduced, step))
        self.assert_false(self.told((1,), other))
        self.assert_false(self.told((1,), (el(2, "0"), self.f, el(2, "0"))))

    def test_other_cofactors(self):
        base = LOG.field(1)
        for at in (2, 3):
            for side in (0, 1):
                for step in (pol(1, "1"), pol(1, "0", "x"), pol(1, "1/x")):
                    new = padd(base, self.data[at][side], step)
                    self.assert_false(self.told((at, side), new))
            self.assert_false(self.told((at,), self.data[at][::-1]))
            self.assert_false(self.told((at,), ((), ())))
            self.assert_false(self.told((at,), self.data[5 - at]))

    def test_cofactors_of_a_higher_degree(self):
        # Any pair that makes 1 will do.
        base = LOG.field(1)
        d = self.data[1][1][1]
        slope = LOG.derive_polynomial(2, d)
        u, v = self.data[2]
        moved = (padd(base, u, slope), padd(base, v, pneg(base, d)))
        self.assertEqual(padd(base, pmul(base, moved[0], d), pmul(base, moved[1], slope)),
                         (base.one(),))
        self.assert_true(self.told((2,), moved))

    def test_constant_residues(self):
        chance = random.Random(64)
        for t, n in unlike_levels():
            base = t.field(n - 1)
            for _ in range(6):
                f = derivative(t, n, chance_answer(chance, t, n))
                _, simple, _ = reduction = hermite(t, n, f)
                if t.field(n).is_zero(simple):
                    one = (base.one(),)
                    data = ("residue", reduction, (one, ()), (one, ()))
                else:
                    data = self.residue_data(t, n, reduction)
                self.assert_false(accepts(t, n, f, data))

    def residue_data(self, t, n, reduction):
        base = t.field(n - 1)
        d = reduction[1][1]
        one = (base.one(),)
        return ("residue", reduction, psolve(base, d, t.derive_polynomial(n, d), one),
                psolve(base, d, pformal(base, d), one))

    def test_what_the_coefficients_of_d_move(self):
        # rho is x; d has coefficients with derivatives, which the roots follow.
        for text, wanted in (("1/(t2+x)", True), ("(1/x+1)/(t2+x)", False),
                             ("1/(t2^2-x)", True), ("(t2/x-1/2)/(t2^2-x)", False),
                             ("x/(t2^2+t2*x+1)", True)):
            f = el(2, text)
            self.assertEqual(logarithms(LOG, 2, f) is None, wanted)
            data = self.residue_data(LOG, 2, (el(2, "0"), f, el(2, "0")))
            self.assertIs(accepts(LOG, 2, f, data), wanted, text)

    def test_level_1_has_constant_residues(self):
        zero = el(1, "0")
        for text in ("1/x", "1/(x^2+1)", "(x+3)/(x^3-2)"):
            f = el(1, text)
            data = self.residue_data(X, 1, (zero, f, zero))
            self.assert_false(self.pure(accepts, X, 1, f, data))


class Parts(CheckerCase):
    def test_power(self):
        f = el(2, "t2^3+t2/x+1/(t2*x)+1/(t2+1)")
        _, data = integrate(EXP, 2, f)
        self.assertEqual(data[3][:2], ("power", 1))
        self.assert_true(accepts(EXP, 2, f, data))
        zero = el(1, "0")
        # The coefficient of another power has no solution either; that of 3 has one.
        self.assert_true(accepts(EXP, 2, f, changed(
            data, (3,), ("power", -1, el(1, "1/x"), ("simple", zero)))))
        for stop in (("power", 3, el(1, "1"), ("simple", zero)),
                     ("power", 3, el(1, "1/x"), ("simple", zero)),
                     ("power", 0, el(1, "1"), ("simple", zero)),
                     ("power", 2, zero, ("simple", zero)),
                     ("power", True, el(1, "1/x"), ("simple", zero)),
                     ("power", 1, el(1, "2/x"), ("simple", zero)),
                     ("power", 1, el(2, "1/x"), ("simple", zero)),
                     ("power", 1, el(1, "1/x"), ("range", zero)),
                     ("power", 1, el(1, "1/x"), ("simple", el(2, "0"))),
                     ("lead", el(2, "0"), 3, el(1, "1"), ("simple", zero)),
                     ("ground", el(2, "t2^3/3"), el(1, "1"), ("constant",)),
                     ("powers", 1, el(1, "1/x"), ("simple", zero))):
            self.assert_false(self.pure(accepts, EXP, 2, f, changed(data, (3,), stop)))

    def test_answer_and_p(self):
        for t, n, f, data in self.each_integral():
            if data[0] != "part":
                continue
            field = t.field(n)
            (part, logs), p = data[1], data[2]
            for step in (f"t{n}", "x", f"1/(t{n}+5)"):
                step = el(n, step)
                self.assert_false(accepts(t, n, f, changed(data, (1, 0), field.add(part, step))))
                self.assert_false(accepts(t, n, f, changed(data, (2,), field.add(p, step))))
            # A constant more in the answer changes nothing.
            more = field.add(part, field.rational((7, 3)))
            self.assert_true(accepts(t, n, f, changed(data, (1, 0), more)))
            for pair in ((q(-1, 1), (el(n, f"t{n}+1"),)), (q(0, 1), (field.one(),)),
                         (q(-1, 1), (field.zero(),)), (q(-1, 2), (field.one(),)), (),
                         (q(1, -2, 1), (field.one(),)), (q(-1, 1), pol(n, "1", "1"))):
                self.assert_false(accepts(t, n, f, changed(data, (1, 1), logs + (pair,))))
            if logs:
                self.assert_false(accepts(t, n, f, changed(data, (1, 1), logs[1:])))

    def test_p_that_is_not_reduced(self):
        # The derivative and p make f, but a simple part is left in p.
        f = el(2, "t2/x+1/(t2+1)")
        zero = el(2, "0")
        _, data = integrate(EXP, 2, f)
        stop = data[3]
        self.assert_true(accepts(EXP, 2, f, data))
        self.assert_false(accepts(EXP, 2, f, ("part", (zero, ()), f, stop)))
        f = el(2, "t2/(x+1)+1/(x*t2)")
        _, data = integrate(LOG, 2, f)
        self.assert_true(accepts(LOG, 2, f, data))
        self.assert_false(accepts(LOG, 2, f, ("part", (zero, ()), f, data[3])))

    def test_another_reduced_p(self):
        # The answer need not be that of the reduction, as long as the rest shows it.
        f = el(2, "t2/x")
        stop = ("power", 1, el(1, "1/x"), ("simple", el(1, "0")))
        for y in ("t2^2", "x^3", "x/t2"):
            y = el(2, y)
            p = EXP.field(2).subtract(f, EXP.derive(2, y))
            self.assert_true(accepts(EXP, 2, f, ("part", (y, ()), p, stop)))
            self.assert_false(accepts(EXP, 2, f, ("part", (y, ()), f, stop)))

    def test_lead(self):
        f = el(2, "t2^3+t2^2/(x+1)+2/(x*t2)")
        _, data = integrate(LOG, 2, f)
        word, step, j, e, inner = data[3]
        self.assertEqual((word, step, j, e), ("lead", el(2, "x*t2^3"), 2, el(1, "0-3+1/(x+1)")))
        for stop in ((word, step, 3, e, inner), (word, step, 1, e, inner),
                     (word, step, 2, el(1, "1/(x+1)"), inner), (word, el(2, "0"), 2, e, inner),
                     (word, el(2, "x*t2^3+x*t2^2"), 2, e, inner),
                     (word, el(2, "x*t2^3+1/t2"), 2, e, inner), (word, step, 0, e, inner),
                     (word, step, 2, el(2, "0-3+1/(x+1)"), inner), (word, step, -2, e, inner),
                     (word, el(1, "x"), 2, e, inner), ("power", 2, e, inner),
                     ("ground", step, e, inner), (word, step, j, e, ("constant",)),
                     (word, step, j, e, inner[:3])):
            self.assert_false(accepts(LOG, 2, f, changed(data, (3,), stop)))
        # What is added to q here has a derivative of a lower degree.
        for more in ("9", "x^2", "t2", "x*t2"):
            other = LOG.field(2).add(step, el(2, more))
            self.assert_true(accepts(LOG, 2, f, changed(data, (3, 1), other)))
        # The degree 0 decides nothing: 1/(x + 1) has an integral.
        f, zero = el(2, "1/(x+1)"), el(2, "0")
        _, inner = limited(LOG, 1, el(1, "1/(x+1)"), (el(1, "x"),))
        self.assert_true(accepts_limited(LOG, 1, el(1, "1/(x+1)"), (el(1, "x"),), inner))
        stop = ("lead", zero, 0, el(1, "1/(x+1)"), inner)
        self.assert_false(accepts(LOG, 2, f, ("part", (zero, ()), f, stop)))
        # A degree 1 is an integer, True is none.
        f = el(2, "t2/(x+1)")
        _, data = integrate(LOG, 2, f)
        self.assertEqual(data[3][2], 1)
        self.assert_false(accepts(LOG, 2, f, changed(data, (3, 2), True)))

    def test_no_lead_over_an_exponential(self):
        # The coefficient has no integral, but the power of the exponential has one.
        e = el(1, "1/(x+1)-1/(x+1)^2")
        f = el(2, "t2*(1/(x+1)-1/(x+1)^2)")
        self.assertEqual(integrate(EXP, 2, f), ("found", (el(2, "t2/(x+1)"), ())))
        _, inner = limited(EXP, 1, e, (el(1, "x"),))
        zero = el(2, "0")
        stop = ("lead", zero, 1, e, inner)
        self.assert_true(accepts_limited(EXP, 1, e, (el(1, "x"),), inner))
        self.assert_false(accepts(EXP, 2, f, ("part", (zero, ()), f, stop)))

    def test_no_power_over_a_logarithm(self):
        # D b + (2 x + 1) b = 1 has no solution, but that says nothing of a logarithm's power.
        t = tower("log x^2+x")
        f, zero = el(2, "t2"), el(2, "0")
        self.assertEqual(integrate(t, 2, f)[0], "found")
        inner = ("range", el(1, "0"))
        self.assert_true(refutes(t, 1, t.argument(2), el(1, "1"), inner))
        stop = ("power", 1, el(1, "1"), inner)
        self.assert_false(accepts(t, 2, f, ("part", (zero, ()), f, stop)))

    def test_ground(self):
        f = el(3, "1/t2+t3*x")
        _, data = integrate(LOG_EXP, 3, f)
        word, step, e, inner = data[3]
        self.assertEqual((word, step, e), ("ground", el(3, "(x-1)*t3"), el(2, "1/t2")))
        for stop in ((word, el(3, "0"), e, inner), (word, el(3, "(x-1)*t3+x"), e, inner),
                     (word, step, el(2, "2/t2"), inner), (word, step, el(3, "1/t2"), inner),
                     (word, el(3, "(x-1)*t3+1/(t3+1)"), e, inner), (word, step, e, ("constant",)),
                     (word, el(2, "x"), e, inner), (word, step, e, data),
                     ("power", 1, e, inner), ("lead", step, 1, e, inner)):
            self.assert_false(accepts(LOG_EXP, 3, f, changed(data, (3,), stop)))

    def test_part_at_level_1(self):
        zero, f = el(1, "0"), el(1, "1/x")
        for stop in (("ground", zero, (1, 1), ("constant",)), ("power", 1, (1, 1), ("simple",)),
                     ("lead", zero, 1, (1, 1), ("apart",)),
                     ("ground", zero, (0, 1), ("constant",))):
            for text in ("1", "x", "0"):
                p = el(1, text)
                self.assert_false(accepts(X, 1, p, ("part", (zero, ()), p, stop)))
            self.assert_false(accepts(X, 1, f, ("part", (zero, ()), f, stop)))
        self.assert_false(accepts(X, 1, el(1, "5"), ("part", (zero, ()), el(1, "5"),
                                                     ("ground", zero, (5, 1), ("constant",)))))


class LimitedParts(CheckerCase):
    def below(self):
        us = tuple(el(2, u) for u in ("(x+1)*(t2+1)", "x+3", "(x+2)^5*t2^2*(t2+1)^2", "t2-7"))
        g = el(2, "1/x+1/(t2+1)+t2")
        kind, data = limited(EXP, 2, g, us)
        self.assertEqual((kind, data[0], data[3]), ("refused", "below", (0, 3)))
        self.assert_true(accepts_limited(EXP, 2, g, us, data))
        return us, g, data

    def test_apart(self):
        for t, n, g, us, data in self.each_limited():
            if data[0] != "apart":
                continue
            rows = data[3]
            others = [(), tuple((point, (0, 1)) for point, _ in rows), rows[:-1] if us else ()]
            if us:
                others += [((rows[0][0], (99, 7)),) + rows[1:], rows + ((rows[0][0], (1, 2)),)]
            for other in others:
                self.assert_false(accepts_limited(t, n, g, us, changed(data, (3,), other)))
            # Twice the weights show the same.
            double = tuple((point, (2 * a, b)) if b % 2 else (point, (a, b // 2))
                           for point, (a, b) in rows)
            self.assert_true(accepts_limited(t, n, g, us, changed(data, (3,), double)))
            field = t.field(n)
            for at in range(3):
                new = field.add(data[1][at], el(n, "x"))
                self.assert_false(accepts_limited(t, n, g, us, changed(data, (1, at), new)))

    def test_points(self):
        us, g = (el(1, "x"), el(1, "x+1")), el(1, "1/(x+2)")
        _, data = limited(X, 1, g, us)
        self.assertEqual(data[0], "apart")
        rows = data[3]
        for at in range(len(rows)):
            for point in (((0, 1),), ((-2, 1),), ((17, 3),), (), ((1, 1), (1, 1)), (True,), (5,)):
                other = changed(rows, (at, 0), point)
                self.assert_false(accepts_limited(X, 1, g, us, changed(data, (3,), other)))

    def test_simple_parts(self):
        for t, n, g, us, data in self.each_limited():
            if not us:
                self.assertEqual(data[2], ())
                continue
            field = t.field(n)
            part, rest = data[2][0]
            for pair in ((rest, part), (field.add(part, rest), field.zero()),
                         (part, field.add(rest, field.one())), (part,), (part, rest, rest),
                         (field.add(part, field.one()), field.subtract(rest, field.one())),
                         (part, rest[0])):
                if pair != (part, rest):
                    other = changed(data, (2, 0), pair)
                    self.assert_false(accepts_limited(t, n, g, us, other))
            for pairs in (data[2][1:], data[2] + ((part, rest),), list(data[2]), ()):
                self.assert_false(accepts_limited(t, n, g, us, changed(data, (2,), pairs)))

    def test_below_base_duals_relations_multiples(self):
        us, g, data = self.below()
        _, _, _, base, duals, relations, r, _ = data
        self.assertEqual(relations, (((0, 1), (0, 1)), ((2, 1), (0, 1))))
        self.assertEqual(r, ((-1, 1), (0, 1)))
        flat = tuple((point, (0, 1)) for point, _ in duals[0])
        for at, new in (
                (3, (0,)), (3, (3, 0)), (3, (1, 3)), (3, (2, 3)), (3, (0, 4)), (3, ()),
                (3, (0, 1, 2, 3)), (3, (False, 3)), (3, [0, 3]), (3, (0, 0)), (3, (0, 2)),
                (4, duals[::-1]), (4, duals[:1]), (4, duals + duals[:1]), (4, ((), ())),
                (4, (flat, duals[1])), (4, list(duals)), (4, ()),
                (5, list(relations)), (5, None), (5, relations[::-1]), (5, relations[:1]), (5, ()), (5, relations * 2),
                (5, (((0, 1), (0, 1)), ((1, 1), (0, 1)))), (5, (((0, 1),), ((2, 1),))),
                (5, (((0, 1), (0, 1)), ((4, 2), (0, 1)))), (5, (((1, 1), (0, 1)), ((2, 1), (0, 1)))),
                (5, (((0, 1), (0, 1)), [(2, 1), (0, 1)])), (5, (((0, 1), (0, 1)), (2, 0))),
                (6, ((-1, 1),)), (6, ((-1, 1), (0, 1), (0, 1))), (6, ((0, 1), (-1, 1))),
                (6, ((-2, 2), (0, 1))), (6, ((-1, 1), (0, 2))), (6, [(-1, 1), (0, 1)]),
                (6, ((-1, 1), (1, 1))), (6, (-1, 0)), (6, ())):
            with self.subTest(at=at, new=new):
                self.assert_false(self.pure(accepts_limited, EXP, 2, g, us,
                                            changed(data, (at,), new)))

    def test_duals_show_that_the_base_is_independent(self):
        us, g, data = self.below()
        # One point shows that a simple part is not zero, but no more.
        single = ((((1, 1), (1, 1)), (1, 1)),)
        for at in (0, 1):
            self.assert_true(is_apart(2, (), data[2][data[3][at]][0], single))
            self.assert_false(accepts_limited(EXP, 2, g, us, changed(data, (4, at), single)))

    def test_a_relation_too_many(self):
        # It would stand in the place of the multiples.
        u = el(2, "(x+1)*(t2+1)")
        g = EXP.field(2).divide(EXP.derive(2, u), u)
        self.assertEqual(limited(EXP, 2, g, (u,)), ("found", el(2, "0"), ((1, 1),)))
        rest = el(2, "1+1/(x+1)")
        _, inner = limited(EXP, 1, el(1, "1+1/(x+1)"), ())
        reduction = hermite(EXP, 2, g)
        simple = ((reduction[1], rest),)
        _, rows = combination(2, (), reduction[1])
        stop = ("ground", el(2, "0"), el(1, "1+1/(x+1)"), inner)
        for relations, r in (((((1, 1),),), ((0, 1),)), ((), ((0, 1),)), ((), ((1, 1),))):
            data = ("below", reduction, simple, (0,), (rows,), relations, r, stop)
            self.assert_false(accepts_limited(EXP, 2, g, (u,), data))
        # The same multiples are right for an element without a limited integral.
        data = ("below", hermite(EXP, 2, rest), simple, (0,), (rows,), (), ((0, 1),), stop)
        self.assert_true(accepts_limited(EXP, 2, rest, (u,), data))

    def test_another_base_that_is_one(self):
        # Indexes 2 and 3 are a base, too; relations, multiples and heads follow it.
        us, g, data = self.below()
        word, reduction, simple, _, duals, _, _, _ = data
        parts = [part for part, _ in simple]
        other = tuple(combination(2, (parts[j],), parts[i])[1] for i, j in ((2, 3), (3, 2)))
        relations = (((1, 2), (0, 1)), ((0, 1), (0, 1)))
        r = ((-1, 2), (0, 1))
        step = el(2, "t2")
        field = EXP.field(2)
        p = field.add(reduction[2], field.multiply(simple[2][1], field.rational((1, 2))))
        e = EXP.lower_to(field.subtract(p, EXP.derive(2, step)), 2, 1)
        heads = (el(1, "(x+1)^2/(x+2)^5"), el(1, "x+3"))
        _, inner = limited(EXP, 1, e, heads)
        made = (word, reduction, simple, (2, 3), other, relations, r, ("ground", step, e, inner))
        self.assert_true(accepts_limited(EXP, 2, g, us, made))
        self.assert_false(accepts_limited(EXP, 2, g, us, changed(made, (3,), (0, 3))))
        self.assert_false(accepts_limited(EXP, 2, g, us, changed(made, (7,), data[7])))
        self.assert_false(accepts_limited(EXP, 2, g, us, changed(data, (7,), made[7])))

    def test_stops(self):
        for t, n, g, us, data in self.each_limited():
            if data[0] != "below":
                continue
            stop = data[7]
            others = [stop[:-1], stop + ((),), list(stop), ("part",) + stop[1:], None,
                      stop[:-1] + (("constant",),), stop[:-1] + (data,), stop[:-1] + ((),)]
            if stop[0] == "ground":
                _, step, e, inner = stop
                more = t.field(n).add(step, t.field(n).variable())
                others += [("ground", more, e, inner),
                           ("ground", step, t.field(n - 1).add(e, t.field(n - 1).one()), inner),
                           ("ground", step, lift(e, n - 1, n), inner)]
            elif stop[0] == "lead":
                _, step, j, e, inner = stop
                others += [("lead", step, j + 1, e, inner), ("lead", step, True, e, inner),
                           ("lead", step, j, t.field(n - 1).negative(e), inner),
                           ("lead", t.field(n).add(step, el(n, f"x*t{n}^7")), j, e, inner)]
            else:
                _, j, e, inner = stop
                others += [("power", j + 1, e, inner), ("power", -j, e, inner),
                           ("power", 0, e, inner), ("power", True, e, inner),
                           ("power", j, t.field(n - 1).negative(e), inner)]
            for other in others:
                self.assert_false(accepts_limited(t, n, g, us, changed(data, (7,), other)))

    def test_below_at_level_1(self):
        zero = el(1, "0")
        g = el(1, "x")
        for stop in (("ground", zero, (0, 1), ("constant",)), ("ground", g, (1, 1), ("constant",)),
                     ("power", 1, (1, 1), ("simple", (0, 1)))):
            data = ("below", (zero, zero, g), (), (), (), (), (), stop)
            self.assert_false(self.pure(accepts_limited, X, 1, g, (), data))
            data = ("below", (zero, zero, el(1, "1")), (), (), (), (), (), stop)
            self.assert_false(self.pure(accepts_limited, X, 1, el(1, "1"), (), data))
        numbers = ((0, 1), (0, 1), (1, 1))
        for inner in (("apart", numbers, (), ()), ("below", numbers, (), (), (), (), (), ())):
            data = ("below", (zero, zero, el(1, "1")), (), (), (), (), (),
                    ("ground", zero, (1, 1), inner))
            self.assert_false(self.pure(accepts_limited, X, 1, el(1, "1"), (), data))

    def test_words_of_other_certificates(self):
        us, g, data = self.below()
        for word in ("apart", "residue", "part", "constant", "ground", "simple", "Below", ""):
            self.assert_false(accepts_limited(EXP, 2, g, us, (word,) + data[1:]))
            self.assert_false(accepts_limited(EXP, 2, g, us, (word,) + data[1:4]))
        self.assert_false(accepts(EXP, 2, g, data))
        _, data = integrate(EXP, 2, el(2, "t2/x"))
        self.assert_false(accepts_limited(EXP, 2, el(2, "t2/x"), (), data))


class OtherValues(CheckerCase):
    def test_they_are_no_certificates(self):
        deep = [nested(60, tuple), nested(60, list)]
        value = ("part",)
        for _ in range(58):
            value = ("part", value)
        deep.append(value)
        value = ("constant",)
        for _ in range(19):
            value = ("part", ((), ()), (), ("ground", (), (), value))
        deep.append(value)
        words = ["constant", "residue", "part", "apart", "below", "ground", "lead", "power"]
        shapes = [(word,) + (None,) * k for word in words for k in range(9)
                  if (word, k) != ("constant", 0)]
        shapes += [(word,) + ((),) * k for word in words for k in range(1, 9)]
        shapes += [(word,) + (deep[0],) * k for word in words for k in (1, 2, 3, 7)]
        for t in (X, LOG, EXP_LOG, HIGH):
            n = t.height()
            f = el(n, f"1/(t{n}+x^2)")
            for other in ODD_VALUES + tuple(deep + shapes):
                for level, e in ((n, f), (0, (1, 1))):
                    self.assert_false(self.pure(accepts, t, level, e, other))
                self.assert_false(self.pure(accepts_limited, t, n, f, (el(n, "x"),), other))
                self.assert_false(accepts_limited(t, n, f, (), other))


class Soundness(CheckerCase):
    def test_nothing_is_accepted_for_the_derivative_of_an_answer(self):
        chance = random.Random(65)
        pool = {}
        for t, n, _, data in self.each_integral():
            pool.setdefault((t.monomials()[:n], n), []).append((t, data))
        for t, n in unlike_levels(tuple(t for t, _, _ in INTEGRALS)):
            field = t.field(n)
            stops = [data[3] for _, data in pool.get((t.monomials()[:n], n), ())
                     if data[0] == "part"]
            inner = [data for _, data in pool.get((t.monomials()[:n - 1], n - 1), ())]
            for _ in range(6):
                f = derivative(t, n, chance_answer(chance, t, n))
                big, simple, reduced = hermite(t, n, f)
                logs, rest = logarithms(t, n, simple)
                p = field.add(reduced, field.lift(rest))
                for _, data in pool.get((t.monomials()[:n], n), ()):
                    self.assert_false(accepts(t, n, f, data))
                for stop in stops + self.made_stops(t, n, p, inner):
                    self.assert_false(accepts(t, n, f, ("part", (big, logs), p, stop)))

    def made_stops(self, t, n, p, inner):
        """Returns stops with the right powers and coefficients of p, and data from elsewhere."""
        if n == 1:
            return []
        zero = t.field(n - 1).zero()
        lower = [("simple", zero), ("range", zero), ("digit", zero),
                 ("below", zero, 1, ("range", t.field(n - 2).zero()))]
        pairs = t.terms(n, p)
        found = [("power", j, e, data) for j, e in pairs for data in lower]
        found += [("lead", t.field(n).zero(), j, e, data)
                  for j, e in pairs[:1] for data in inner + lower]
        if all(j == 0 for j, _ in pairs):
            found += [("ground", t.field(n).zero(), e, data)
                      for _, e in pairs for data in inner + lower + [("constant",)]]
        return found


if __name__ == "__main__":
    unittest.main()
