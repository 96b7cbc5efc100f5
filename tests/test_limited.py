"""Chapter 13, points 13.1 to 13.5: limited integrals."""

import random
import unittest

from integraph.equation import refutes
from integraph.errors import ZeroDivisor
from integraph.hermite import is_reduction, is_simple
from integraph.limited import head, limited, log_quotient
from integraph.linear import primitive
from integraph.rational import is_rational
from integraph.vectors import combination, is_apart
from tests.algebra import (
    EXP, EXP_EXP, EXP_LOG, HIGH, LOG, LOG_EXP, LOG_LOG, X, chance_rational, el, lift, multiplied,
    rat, small_element, tower, unlike_levels)
from tests.helpers import PureCase


class LimitedCase(PureCase):
    def each_level(self):
        for t, n in unlike_levels():
            with self.subTest(monomials=t.monomials()[:n]):
                yield t, n

    def total(self, t, n, y, us, cs):
        """Returns D y plus the sum of the c_i u_i' / u_i."""
        field = t.field(n)
        total = t.derive(n, y)
        for u, c in zip(us, cs):
            total = field.add(total, multiplied(field, field.divide(t.derive(n, u), u), c))
        return total

    def solved(self, t, n, g, us):
        """Returns what limited returns, after the checks that hold for every result."""
        result = self.pure(limited, t, n, g, us)
        if result[0] == "found":
            _, y, cs = result
            self.assertEqual(len(result), 3)
            self.assertEqual(len(cs), len(us))
            self.assertTrue(all(is_rational(c) for c in cs))
            self.assertEqual(self.total(t, n, y, us, cs), g)
        else:
            self.assertEqual((result[0], len(result)), ("refused", 2))
            self.check_data(t, n, g, us, result[1])
        return result

    def check_data(self, t, n, g, us, data):
        """Each part of the data by points 13.3 and 13.5."""
        field = t.field(n)
        (big, simple, reduced), pairs = data[1], data[2]
        self.assert_true(is_reduction(t, n, g, big, simple, reduced))
        self.assertEqual(len(pairs), len(us))
        for u, (part, rest) in zip(us, pairs):
            self.assertTrue(is_simple(t, n, part))
            self.assertIsNotNone(field.lowered(rest))
            self.assertEqual(field.add(part, rest), log_quotient(t, n, u))
        parts = tuple(part for part, _ in pairs)
        if data[0] == "apart":
            self.assertEqual(len(data), 4)
            self.assert_true(is_apart(n, parts, simple, data[3]))
            base = self.base_of(n, parts)
            chosen = tuple(parts[i] for i in base)
            self.assertEqual(combination(n, chosen, simple), ("apart", data[3]))
        else:
            self.assertEqual((data[0], len(data)), ("below", 8))
            self.check_below(t, n, us, parts, data)

    def base_of(self, n, parts):
        base = []
        for at, part in enumerate(parts):
            if combination(n, tuple(parts[i] for i in base), part)[0] == "apart":
                base.append(at)
        return tuple(base)

    def check_below(self, t, n, us, parts, data):
        field = t.field(n)
        _, reduction, pairs, base, duals, relations, r, stop = data
        self.assertEqual(base, self.base_of(n, parts))
        chosen = [parts[i] for i in base]
        self.assertEqual(len(duals), len(base))
        for at, rows in enumerate(duals):
            others = tuple(chosen[:at] + chosen[at + 1:])
            self.assert_true(is_apart(n, others, chosen[at], rows))
        outside = [i for i in range(len(us)) if i not in base]
        self.assertEqual(len(relations), len(outside))
        for i, relation in zip(outside, relations):
            self.assertEqual(len(relation), len(base))
            self.assertEqual(self.sum_of(field, chosen, relation), parts[i])
            for j, c in zip(base, relation):
                self.assertTrue(j < i or c == (0, 1))
        self.assertEqual(self.sum_of(field, chosen, r), reduction[1])
        p = reduction[2]
        for i, c in zip(base, r):
            p = field.subtract(p, multiplied(field, pairs[i][1], c))
        self.check_stop(t, n, p, self.products(t, n, us, base, relations), stop)

    def sum_of(self, field, items, multiples):
        total = field.zero()
        self.assertEqual(len(items), len(multiples))
        for e, c in zip(items, multiples):
            total = field.add(total, multiplied(field, e, c))
        return total

    def products(self, t, n, us, base, relations):
        """Returns the elements w_i of step 4."""
        found = []
        outside = [i for i in range(len(us)) if i not in base]
        for i, relation in zip(outside, relations):
            vector = [(0, 1)] * len(us)
            vector[i] = (1, 1)
            for j, (a, b) in zip(base, relation):
                vector[j] = (-a, b)
            w = t.field(n - 1).one()
            for u, (k, _) in zip(us, primitive(tuple(vector))):
                e, _ = head(t, n, u)
                w = t.field(n - 1).multiply(w, t.field(n - 1).power(e, k))
            found.append(w)
        return tuple(found)

    def check_stop(self, t, n, p, products, stop):
        field = t.field(n)
        word, data = stop[0], stop[-1]
        if word == "power":
            _, j, e, _ = stop
            self.assertEqual(t.kind(n), "exp")
            self.assertNotEqual(j, 0)
            self.assertEqual(dict(t.terms(n, p))[j], e)
            w = multiplied(t.field(n - 1), t.argument(n), (j, 1))
            self.assert_true(refutes(t, n - 1, w, e, data))
        elif word == "lead":
            _, q, j, e, _ = stop
            self.assertEqual(t.kind(n), "log")
            self.assertGreaterEqual(j, 1)
            rest = field.subtract(p, t.derive(n, q))
            self.assertEqual(t.terms(n, rest)[0], (j, e))
            self.check_data(t, n - 1, e, (t.argument(n),), data)
        else:
            self.assertEqual(word, "ground")
            _, q, e, _ = stop
            self.assertEqual(field.subtract(p, t.derive(n, q)), field.lift(e))
            if t.kind(n) == "log":
                products = (t.argument(n),) + products
            self.check_data(t, n - 1, e, products, data)

    def check(self, t, n, g, us, y, cs):
        """The limited integral is found: y as a text, or an element that differs by a rational."""
        us = tuple(el(n, u) for u in us)
        kind, found, multiples = self.solved(t, n, el(n, g), us)
        self.assertEqual(kind, "found")
        self.assertEqual(multiples, tuple(rat(c) for c in cs))
        self.assert_alike(t, n, found, el(n, y))

    def assert_alike(self, t, n, one, two):
        field = t.field(n)
        self.assertIsNotNone(field.as_rational(field.subtract(one, two)))

    def refused(self, t, n, g, us, *words):
        """It is refused, and the words of the data from the outside to the inside are these."""
        us = tuple(el(n, u) for u in us)
        kind, data = self.solved(t, n, el(n, g), us)
        self.assertEqual(kind, "refused")
        found = []
        while isinstance(data[0], str):
            found.append(data[0])
            data = data[-1]
            if not isinstance(data, tuple) or not data:
                break
        self.assertEqual(found, list(words))


class Head(LimitedCase):
    def check_head(self, t, n, u, e, k):
        found = self.pure(head, t, n, el(n, u))
        self.assertEqual(found, (el(n - 1, e), k))
        self.assertIs(type(found[1]), int)

    def test_known_heads(self):
        self.check_head(X, 1, "3*x^2-x", "3", 2)
        self.check_head(X, 1, "1/(2*x+1)", "1/2", -1)
        self.check_head(X, 1, "(x+1)/(5*x-1)", "1/5", 0)
        self.check_head(X, 1, "7", "7", 0)
        self.check_head(LOG, 2, "x*t2^3+5", "x", 3)
        self.check_head(LOG, 2, "(x*t2+1)/(x^2*t2^2-3)", "1/x", -1)
        self.check_head(LOG, 2, "x+1", "x+1", 0)
        self.check_head(EXP, 2, "1/t2^4", "1", -4)
        self.check_head(EXP, 2, "(2*t2^2+x)/((x+1)*t2-1)", "2/(x+1)", 1)
        self.check_head(LOG_EXP, 3, "t2*t3^2+t3", "t2", 2)

    def test_heads_multiply(self):
        chance = random.Random(1)
        for t, n in self.each_level():
            field, base = t.field(n), t.field(n - 1)
            for _ in range(6):
                u, v = small_element(chance, n), small_element(chance, n)
                if field.is_zero(u) or field.is_zero(v):
                    continue
                (a, i), (b, j) = head(t, n, u), head(t, n, v)
                self.assertEqual(head(t, n, field.multiply(u, v)), (base.multiply(a, b), i + j))
                self.assertEqual(head(t, n, field.divide(u, v)), (base.divide(a, b), i - j))

    def test_log_quotients_add(self):
        chance = random.Random(2)
        for t, n in self.each_level():
            field = t.field(n)
            for _ in range(5):
                u, v = small_element(chance, n), small_element(chance, n)
                if field.is_zero(u) or field.is_zero(v):
                    continue
                a, b = self.pure(log_quotient, t, n, u), self.pure(log_quotient, t, n, v)
                self.assertEqual(a, field.divide(t.derive(n, u), u))
                self.assertEqual(log_quotient(t, n, field.multiply(u, v)), field.add(a, b))
                self.assertEqual(log_quotient(t, n, field.divide(u, v)), field.subtract(a, b))
                self.assertEqual(log_quotient(t, n, field.power(u, -3)),
                                 multiplied(field, a, (-3, 1)))

    def test_known_log_quotients(self):
        self.assertEqual(log_quotient(X, 1, el(1, "x^2")), el(1, "2/x"))
        self.assertEqual(log_quotient(X, 1, el(1, "9/4")), el(1, "0"))
        self.assertEqual(log_quotient(LOG, 2, el(2, "t2")), el(2, "1/(x*t2)"))
        self.assertEqual(log_quotient(EXP, 2, el(2, "x/t2^5")), el(2, "1/x-5"))
        self.assertEqual(log_quotient(EXP_EXP, 3, el(3, "t3")), el(3, "t2"))

    def test_the_log_quotient_is_simple_but_for_what_the_head_gives(self):
        chance = random.Random(3)
        for t, n in self.each_level():
            field = t.field(n)
            for _ in range(5):
                u = small_element(chance, n)
                if field.is_zero(u):
                    continue
                e, k = head(t, n, u)
                rest = log_quotient(t, n - 1, e) if n > 1 else el(0, "0")
                if t.kind(n) == "exp":
                    moved = multiplied(t.field(n - 1), t.ground(n), (k, 1))
                    rest = t.field(n - 1).add(rest, moved)
                simple = field.subtract(log_quotient(t, n, u), field.lift(rest))
                self.assertTrue(is_simple(t, n, simple))

    def test_zero(self):
        for t, n in self.each_level():
            self.pure_raises(ZeroDivisor, head, t, n, t.field(n).zero())
            self.pure_raises(ZeroDivisor, log_quotient, t, n, t.field(n).zero())


class Found(LimitedCase):
    def test_the_examples(self):
        us = (el(1, "x"), el(1, "x+1"))
        self.assertEqual(self.solved(X, 1, el(1, "1/x+2/(x+1)"), us),
                         ("found", el(1, "0"), ((1, 1), (2, 1))))
        self.assertEqual(self.solved(X, 1, el(1, "1"), (el(1, "x"),)),
                         ("found", el(1, "x"), ((0, 1),)))
        self.assertEqual(self.solved(X, 1, el(1, "1/x"), (el(1, "x"),)),
                         ("found", el(1, "0"), ((1, 1),)))
        self.refused(X, 1, "1/(x+2)", ("x", "x+1"), "apart")

    def test_over_x(self):
        self.check(X, 1, "0", (), "0", ())
        self.check(X, 1, "x^3-1/x^2+5", (), "x^4/4+1/x+5*x", ())
        self.check(X, 1, "1/(2*x)-3/(x^2+x)", ("x", "x+1"), "0", ("-5/2", 3))
        self.check(X, 1, "x/(x^2+1)", ("x^2+1",), "0", ("1/2",))
        self.check(X, 1, "1/x", ("x^2*(x-1)", "(x-1)/7"), "0", ("1/2", "-1/2"))

    def test_an_integral_over_x_has_no_constant(self):
        for g, y in (("x", "x^2/2"), ("1+1/(x-1)^2", "x-1/(x-1)"), ("0", "0")):
            self.assertEqual(self.solved(X, 1, el(1, g), ()), ("found", el(1, y), ()))

    def test_over_a_logarithm(self):
        self.check(LOG, 2, "t2", (), "x*t2-x", ())
        self.check(LOG, 2, "t2/x", (), "t2^2/2", ())
        self.check(LOG, 2, "t2^3/x+1/(x*t2)", ("t2",), "t2^4/4", (1,))
        self.check(LOG, 2, "1/x", (), "t2", ())
        self.check(LOG, 2, "1/x-1/(x*t2^2)", ("x+1",), "t2+1/t2", (0,))

    def test_over_an_exponential(self):
        self.check(EXP, 2, "x*t2", (), "(x-1)*t2", ())
        self.check(EXP, 2, "x/t2^2+5", (), "0-(2*x+1)/(4*t2^2)+5*x", ())
        self.check(EXP, 2, "1/(t2+1)", ("t2+1",), "x", (-1,))
        self.check(EXP, 2, "1/x+t2/(t2-1)", ("x", "t2-1"), "0", (1, 1))

    def test_indexes_outside_of_the_base(self):
        # The simple parts are zero, alike, or sums of others; the heads are no rationals.
        self.check(EXP, 2, "2/x-3/(x+1)", ("x", "x+1"), "0", (2, -3))
        self.check(EXP, 2, "1/x", ("x*t2^3",), "0-3*x", (1,))
        self.check(EXP, 2, "1/x+1/(t2+1)", ("t2+1", "x*(t2+1)^2"), "x", (-3, 1))
        self.check(EXP, 2, "5/x+t2^2", ("x^2*t2", "t2/x^3-t2^4/x^3", "1-t2^3"),
                   "t2^2/2-5*x/2", ("5/2", 0, 0))
        self.check(LOG, 2, "2/(x+1)+1/(x*t2)", ("(x+1)*t2", "(x+1)^3*t2^2"), "0", (-1, 1))
        self.check(LOG, 2, "1/(x+1)", ("x+1", "(x+2)*t2"), "0", (1, 0))
        self.check(LOG, 2, "2/(x-1)+1/(x*t2)+4/x", ("t2", "(x-1)*t2^3"), "4*t2", (-5, 2))
        self.check(EXP_EXP, 3, "1/x+t2", ("x*t3",), "0", (1,))
        self.check(EXP_EXP, 3, "1/x+t2*t3/(t3+1)-1", ("t3+1", "x*(t3+1)^2/t2"), "0", (-1, 1))
        self.check(EXP_LOG, 3, "1/x+t2*t3", ("x*t3", "t3^2"), "(t2+1)*t3-t2", (1, "-1/2"))
        self.check(LOG_LOG, 3, "1/(x+5)+1/(t2*(x+1))+1/(t2*(x+1)*t3)",
                   ("(x+5)*t3", "t3^2*(x-5)^2", "t3^3*(x-6)"), "t3", (1, 0, 0))

    def test_drawn_over_all_levels(self):
        chance = random.Random(21)
        for t, n in self.each_level():
            field = t.field(n)
            for _ in range(10 if n < 3 else 6):
                us = self.chance_us(chance, t, n)
                cs = tuple(chance_rational(chance) for _ in us)
                y = small_element(chance, n)
                kind, found, multiples = self.solved(t, n, self.total(t, n, y, us, cs), us)
                self.assertEqual((kind, multiples), ("found", cs))
                self.assertIsNotNone(field.as_rational(field.subtract(found, y)))

    def chance_us(self, chance, t, n):
        """Returns elements without relations, up to derivatives of elements."""
        field = t.field(n)
        pool = [f"t{n}+1", f"t{n}-2", f"t{n}^2+2", "7"]
        if n > 1:
            pool += ["x+2", f"(x+3)*(t{n}+1)^2", f"(x+3)*(t{n}-2)/t{n}", f"(x-4)*t{n}^2",
                     f"t{n}+x", f"(x-5)*(t{n}+x)*(t{n}+1)"]
        items = [lift(t.argument(k), k - 1, n) if t.kind(k) == "log"
                 else lift(t.variable(k), k, n) for k in range(2, n + 1)]
        items = [log_quotient(t, n, e) for e in items]
        found = []
        for text in chance.sample(pool, chance.randint(1, 4)):
            u = el(n, text)
            quotient = field.divide(t.derive(n, u), u)
            if combination(n, tuple(items), quotient)[0] == "apart":
                items.append(quotient)
                found.append(u)
        return tuple(found)

    def test_refusals_of_drawn_elements(self):
        chance = random.Random(22)
        for t, n in self.each_level():
            refused = 0
            for _ in range(8 if n < 3 else 5):
                us = self.chance_us(chance, t, n)
                cs = tuple(chance_rational(chance) for _ in us)
                g = self.total(t, n, small_element(chance, n), us, cs)
                extra = small_element(chance, n)
                if n > 1 and chance.random() < 0.6:
                    extra = lift(small_element(chance, n - 1), n - 1, n)
                refused += self.solved(t, n, t.field(n).add(g, extra), us)[0] == "refused"
            self.assertGreater(refused, 0)


class Refused(LimitedCase):
    def test_apart(self):
        for t, n, g, us in (
                (X, 1, "1/x", ()), (X, 1, "1/(x^2-2)", ("x^2-2",)), (X, 1, "1/x", ("x+1",)),
                (X, 1, "1/(x^2+1)", ("x", "x^2+1")), (LOG, 2, "1/t2", ("t2",)),
                (LOG, 2, "x+1/(t2+1)", ("t2", "x+1")), (EXP, 2, "1/(t2+1)", ("t2-1",)),
                (EXP, 2, "x/(t2+1)", ("t2+1", "x")), (EXP_LOG, 3, "1/(t3+t2)", ("t3", "t2-1")),
                (HIGH, 4, "1/(t4+1)", ("t4-1", "x", "t3+1"))):
            self.refused(t, n, g, us, "apart")

    def test_lead(self):
        self.refused(LOG, 2, "t2/(x+1)", (), "below", "lead", "apart")
        self.refused(LOG, 2, "t2^3/x+t2/(x^2+1)", ("t2", "x+1"), "below", "lead", "apart")
        self.refused(LOG, 2, "t2^2/(x+1)+1/(x*t2)", ("t2",), "below", "lead", "apart")
        self.refused(EXP_LOG, 3, "t2*t3^2/x", (), "below", "lead", "below", "power", "simple")
        self.refused(EXP_LOG, 3, "t3/x", ("t3",), "below", "lead", "below", "ground", "apart")
        self.refused(LOG_LOG, 3, "t3*t2/x", (), "below", "lead", "below", "lead", "apart")
        self.refused(LOG_LOG, 3, "t3/t2", (), "below", "lead", "apart")

    def test_the_lead_of_a_later_degree(self):
        # The degree 3 is taken off; then the degree 2 has a head without a limited integral.
        _, data = self.solved(LOG, 2, el(2, "t2^3+t2^2/(x+1)"), ())
        stop = data[-1]
        self.assertEqual((stop[0], stop[1], stop[2], stop[3]),
                         ("lead", el(2, "x*t2^3"), 2, el(1, "0-3+1/(x+1)")))

    def test_power(self):
        self.refused(EXP, 2, "t2/x", (), "below", "power", "simple")
        self.refused(EXP, 2, "x/t2+t2^2/(x+1)+t2/(t2-1)", ("t2-1",), "below", "power", "simple")
        self.refused(tower("exp x^2"), 2, "t2", ("x",), "below", "power", "range")
        self.refused(EXP_EXP, 3, "x*t3", ("t3+1",), "below", "power", "range")
        self.refused(LOG_EXP, 3, "t2*t3", ("t3+1",), "below", "power", "below", "simple")
        _, data = self.solved(EXP, 2, el(2, "t2^3+t2/x+1/(x*t2)+1/x"), ())
        self.assertEqual(data[-1][:3], ("power", 1, el(1, "1/x")))

    def test_ground(self):
        self.refused(LOG, 2, "1/(x+1)", (), "below", "ground", "apart")
        self.refused(LOG, 2, "1/(x+1)", ("(x+2)*t2", "t2"), "below", "ground", "apart")
        self.refused(EXP, 2, "1/x", ("t2+1",), "below", "ground", "apart")
        self.refused(EXP, 2, "1/x+1/(t2+1)", ("(x+1)*(t2+1)", "(x+2)*(t2+1)^2"),
                     "below", "ground", "apart")
        self.refused(EXP_LOG, 3, "1/x", ("t3",), "below", "ground", "below", "ground", "apart")
        self.refused(EXP_LOG, 3, "t2/x+t3*t2", (), "below", "ground", "below", "power", "simple")
        self.refused(HIGH, 4, "t2/(x+1)", ("t4-1",), "below", "ground", "below", "ground",
                     "below", "lead", "apart")
        self.refused(LOG_LOG, 3, "1/t2", ("t3", "x+5"), "below", "ground", "apart")

    def test_the_parts_of_the_ground_one_by_one(self):
        us = tuple(el(2, u) for u in ("(x+1)*(t2+1)", "x+3", "(x+2)^5*t2^2*(t2+1)^2"))
        g = el(2, "1/x+1/(t2+1)+t2")
        kind, data = self.solved(EXP, 2, g, us)
        self.assertEqual(kind, "refused")
        word, reduction, pairs, base, duals, relations, r, stop = data
        self.assertEqual(word, "below")
        zero = el(2, "0")
        self.assertEqual(reduction, (zero, el(2, "1/(t2+1)"), el(2, "1/x+t2")))
        minus = el(2, "0-1/(t2+1)")
        self.assertEqual(pairs, (
            (minus, el(2, "1+1/(x+1)")), (zero, el(2, "1/(x+3)")),
            (el(2, "0-2/(t2+1)"), el(2, "4+5/(x+2)"))))
        self.assertEqual(base, (0,))
        self.assertEqual(len(duals), 1)
        self.assertEqual(relations, (((0, 1),), ((2, 1),)))
        self.assertEqual(r, ((-1, 1),))
        word, q, e, inner = stop
        self.assertEqual((word, q, e), ("ground", el(2, "t2"), el(1, "1/x+1+1/(x+1)")))
        # The heads: x + 3, and (x + 2)^5 / (x + 1)^2.
        heads = (el(1, "x+3"), el(1, "(x+2)^5/(x+1)^2"))
        self.check_data(EXP, 1, e, heads, inner)

    def test_the_parts_over_a_logarithm(self):
        us = tuple(el(2, u) for u in ("(x+1)*t2", "(x+2)/t2^3"))
        _, data = self.solved(LOG, 2, el(2, "1/(x+5)+t2^2/x+2/(x*t2)"), us)
        _, _, pairs, base, _, relations, r, stop = data
        self.assertEqual(pairs, ((el(2, "1/(x*t2)"), el(2, "1/(x+1)")),
                                 (el(2, "0-3/(x*t2)"), el(2, "1/(x+2)"))))
        self.assertEqual((base, relations, r), ((0,), (((-3, 1),),), ((2, 1),)))
        self.assertEqual(stop[:3], ("ground", el(2, "t2^3/3"), el(1, "1/(x+5)-2/(x+1)")))
        # 3 of the first one and 1 of the second one: the heads are (x + 1)^3 (x + 2).
        self.check_data(LOG, 1, stop[2], (el(1, "x"), el(1, "(x+1)^3*(x+2)")), stop[3])


if __name__ == "__main__":
    unittest.main()
