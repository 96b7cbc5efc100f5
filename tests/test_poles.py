"""Chapter 11: normal poles of the equation D y + (D w) y = g."""

import random
import unittest

from integraph.divisor import pgcd
from integraph.poles import clear, coprime_parts, order_at
from integraph.polynomial import degree, pmul, ppow, pquotient
from tests.algebra import (
    EXP, LEVELS, LOG, X, el, normal_polynomials, pol, q, small_element, tower, unlike_levels)
from tests.helpers import PureCase

Q = LEVELS[0]


def product(field, pairs):
    found = (field.one(),)
    for p, k in pairs:
        found = pmul(field, found, ppow(field, p, k))
    return found


def with_orders(t, n, pairs, top=None):
    """Returns the element that is the product of the polynomials to these powers."""
    base = t.field(n - 1)
    e = t.field(n).fraction(product(base, [(p, k) for p, k in pairs if k > 0]),
                            product(base, [(p, -k) for p, k in pairs if k < 0]))
    return t.field(n).multiply(e, top or t.field(n).one())


def free_of_normal_poles(t, n, e):
    _, normal = t.special_split(n, e[1])
    return degree(normal) == 0


class PolesCase(PureCase):
    def each_level(self):
        for t, n in unlike_levels():
            with self.subTest(monomials=t.monomials()[:n]):
                yield t, n

    def check(self, t, n, w, g, *wanted):
        self.assertEqual(self.pure(clear, t, n, el(n, w), el(n, g)), wanted)

    def quotients(self, t, n, found):
        """Returns h, q and a as elements."""
        one = (t.field(n - 1).one(),)
        return [t.field(n).fraction(p, one) for p in found[1:4]]

    def check_equation(self, t, n, w, g, found):
        """b and c by point 11.1, and what point 11.2 says of them."""
        field, base = t.field(n), t.field(n - 1)
        h, q_, a = self.quotients(t, n, found)
        for p in found[1:4]:
            self.assertEqual(p[-1], base.one())
        for e in found[4:]:
            self.assert_true(field.is_element(e))
        total = t.derive(n, w)
        total = field.add(total, field.divide(t.derive(n, q_), q_))
        total = field.subtract(total, field.divide(t.derive(n, h), h))
        b, c = found[4:]
        self.assertEqual(b, field.multiply(a, total))
        self.assertEqual(c, field.divide(field.multiply(field.multiply(a, g), h), q_))
        self.assertTrue(free_of_normal_poles(t, n, b))
        self.assertTrue(free_of_normal_poles(t, n, c))
        if degree(found[3]) > 0:
            self.assertFalse(field.is_zero(b))
            _, normal = t.special_split(n, b[0])
            self.assertEqual(pgcd(base, normal, found[3]), (base.one(),))


class Clear(PolesCase):
    def test_the_examples_over_x(self):
        one = q(1)
        self.check(X, 1, "0", "1/x", "simple", q(0, 1))
        self.check(X, 1, "0", "1/x^3", "cleared", q(0, 0, 1), one, q(0, 1), el(1, "0-2"),
                   el(1, "1"))
        self.check(X, 1, "1/x", "1/x^2", "cleared", one, one, q(0, 0, 1), el(1, "0-1"),
                   el(1, "1"))
        self.check(X, 1, "1/x", "1", "cleared", one, q(0, 0, 1), q(0, 0, 1), el(1, "2*x-1"),
                   el(1, "1"))

    def test_the_example_over_an_exponential(self):
        line, one = pol(1, "1", "1"), pol(1, "1")
        self.check(EXP, 2, "0", "t2/(t2+1)^2", "cleared", line, one, line, el(2, "0-t2"),
                   el(2, "t2"))

    def test_without_poles(self):
        for t, n in self.each_level():
            one = (t.field(n - 1).one(),)
            for w, g in (("0", "1"), (f"t{n}^2+x", f"t{n}-3"), ("x", f"x*t{n}^2")):
                w, g = el(n, w), el(n, g)
                found = self.pure(clear, t, n, w, g)
                self.assertEqual(found, ("cleared", one, one, one, t.derive(n, w), g))

    def test_simple_with_the_product_of_all_such_factors(self):
        for t, n in self.each_level():
            base = t.field(n - 1)
            p, r, s, u = normal_polynomials(t, n)[:4]
            for pole, w in ((False, t.field(n).zero()), (False, el(n, f"t{n}^2")),
                            (True, with_orders(t, n, [(s, -1)])),
                            (True, with_orders(t, n, [(s, -2), (p, 3)]))):
                for pairs in ([(p, -1)], [(p, -1), (r, -1)], [(p, -1), (r, -2)],
                              [(p, -1), (s, -1)], [(p, -2), (r, -1), (u, -1)],
                              [(p, -1), (r, 2), (s, -5)]):
                    simple = [(f, 1) for f, k in pairs if k == -1 and not (pole and f == s)]
                    g = with_orders(t, n, pairs)
                    self.assertEqual(self.pure(clear, t, n, w, g),
                                     ("simple", product(base, simple)))

    def test_each_exponent(self):
        for t, n in self.each_level():
            base = t.field(n - 1)
            one = (base.one(),)
            for p in normal_polynomials(t, n)[1:3]:
                for i in (1, 2, 3):
                    w = with_orders(t, n, [(p, -i)])
                    for j in range(-i - 4, 4) if n == 1 else (-i - 3, -i - 1, -i, 1):
                        g = with_orders(t, n, [(p, j)])
                        found = self.pure(clear, t, n, w, g)
                        self.assertEqual(found[0], "cleared")
                        self.assertEqual(found[1], ppow(base, p, max(0, -(j + i + 1))))
                        self.assertEqual(found[2], ppow(base, p, max(0, j + i + 1)))
                        self.assertEqual(found[3], ppow(base, p, i + 1))
                        self.check_equation(t, n, w, g, found)
                for j in (-2, -3, -5):
                    for w in (t.field(n).zero(), t.variable(n), with_orders(t, n, [(p, 2)])):
                        g = with_orders(t, n, [(p, j)])
                        found = self.pure(clear, t, n, w, g)
                        self.assertEqual(found[:4], ("cleared", ppow(base, p, -j - 1), one, p))
                        self.check_equation(t, n, w, g, found)

    def test_zeros_of_g_where_w_has_no_pole_do_not_count(self):
        one = q(1)
        self.check(X, 1, "x", "x^3", "cleared", one, one, one, el(1, "1"), el(1, "x^3"))
        self.check(X, 1, "1/x", "(x+1)^4", "cleared", one, q(0, 0, 1), q(0, 0, 1),
                   el(1, "2*x-1"), el(1, "(x+1)^4"))

    def test_several_factors(self):
        for t, n in self.each_level():
            base = t.field(n - 1)
            chance = random.Random(n)
            for _ in range(6 if n < 3 else 3):
                factors = chance.sample(normal_polynomials(t, n), 3)
                in_w = [(p, chance.choice((-2, -1, 0, 1))) for p in factors]
                in_g = [(p, chance.choice((-4, -3, -2, -1, 0, 1, 2))) for p in factors]
                w, g = with_orders(t, n, in_w), with_orders(t, n, in_g)
                found = self.pure(clear, t, n, w, g)
                orders = [(p, -i, j) for (p, i), (_, j) in zip(in_w, in_g)]
                simple = [(p, 1) for p, i, j in orders if i <= 0 and j == -1]
                if simple:
                    self.assertEqual(found, ("simple", product(base, simple)))
                    continue
                h = [(p, -(j + i + 1) if i > 0 else -j - 1) for p, i, j in orders]
                q_ = [(p, j + i + 1) for p, i, j in orders if i > 0]
                a = [(p, i + 1 if i > 0 else int(j < -1)) for p, i, j in orders]
                wanted = [product(base, [(p, max(0, k)) for p, k in pairs])
                          for pairs in (h, q_, a)]
                self.assertEqual(list(found[1:4]), wanted)
                self.check_equation(t, n, w, g, found)

    def test_special_poles_are_left_alone(self):
        one = pol(1, "1")
        self.check(EXP, 2, "1/t2", "1/t2^2", "cleared", one, one, one, el(2, "0-1/t2"),
                   el(2, "1/t2^2"))
        self.check(EXP, 2, "0", "1/t2", "cleared", one, one, one, el(2, "0"), el(2, "1/t2"))
        self.check(EXP, 2, "1/t2^3+t2", "1/(t2*(t2+1))", "simple", pol(1, "1", "1"))
        line = pol(1, "1", "1")
        found = clear(EXP, 2, el(2, "1/(t2*(t2+1))"), el(2, "t2^5"))
        self.assertEqual(found[:4], ("cleared", one, ppow(LEVELS[1], line, 2),
                                     ppow(LEVELS[1], line, 2)))
        # For a logarithm t is no special polynomial.
        self.check(LOG, 2, "0", "1/t2", "simple", pol(1, "0", "1"))

    def test_solutions_of_the_one_equation_are_those_of_the_other(self):
        for t, n in self.each_level():
            field = t.field(n)
            chance = random.Random(40 + n)
            for _ in range(8 if n < 3 else 4):
                factors = chance.sample(normal_polynomials(t, n), 2)
                y = with_orders(t, n, [(p, chance.choice((-3, -2, -1, 0, 1, 2)))
                                       for p in factors], field.one())
                y = field.add(y, small_element(chance, n))
                w = with_orders(t, n, [(p, chance.choice((-2, -1, 0, 0))) for p in factors])
                w = chance.choice((w, field.zero(), field.add(w, small_element(chance, n))))
                g = field.add(t.derive(n, y), field.multiply(t.derive(n, w), y))
                if field.is_zero(g):
                    continue
                found = self.pure(clear, t, n, w, g)
                self.assertEqual(found[0], "cleared")
                self.check_equation(t, n, w, g, found)
                h, q_, a = self.quotients(t, n, found)
                b, c = found[4:]
                z = field.divide(field.multiply(y, h), q_)
                self.assertTrue(free_of_normal_poles(t, n, z))
                self.assertEqual(c, field.add(field.multiply(a, t.derive(n, z)),
                                              field.multiply(b, z)))


class CoprimeParts(PolesCase):
    def check_parts(self, n, polynomials):
        field = LEVELS[n - 1]
        found = self.pure(coprime_parts, n, tuple(polynomials))
        one = (field.one(),)
        for at, p in enumerate(found):
            self.assertGreater(degree(p), 0)
            self.assertEqual(p[-1], field.one())
            for other in found[at + 1:]:
                self.assertEqual(pgcd(field, p, other), one)
        for p in polynomials:
            parts = [(r, 1) for r in found if pquotient(field, p, r) is not None]
            self.assertEqual(product(field, parts), p)
        self.assertEqual(list(found), sorted(found, key=lambda p: (len(p), p)))
        return found

    def test_edges(self):
        for n in (1, 2, 3, 4):
            self.assertEqual(self.pure(coprime_parts, n, ()), ())
            line = (LEVELS[n - 1].one(), LEVELS[n - 1].one())
            self.assertEqual(self.check_parts(n, [line]), (line,))
            self.assertEqual(self.check_parts(n, [line, line, line]), (line,))

    def test_divisors_of_divisors(self):
        a, b, c = q(-1, 1), q(-2, 1), q(-3, 1)
        ab, bc, abc = pmul(Q, a, b), pmul(Q, b, c), pmul(Q, pmul(Q, a, b), c)
        self.assertEqual(self.check_parts(1, [ab, bc]), (c, b, a))
        self.assertEqual(self.check_parts(1, [abc]), (abc,))
        self.assertEqual(self.check_parts(1, [abc, ab]), (c, ab))
        self.assertEqual(self.check_parts(1, [abc, ab, a]), (c, b, a))
        self.assertEqual(self.check_parts(1, [abc, abc, q(1, 0, 1)]), (q(1, 0, 1), abc))

    def test_irreducible_divisors_stand_together_as_far_as_arguments_go(self):
        for t, n in ((X, 1), (LOG, 2), (EXP, 2), (tower("exp x", "log t2+1"), 3)):
            field = t.field(n - 1)
            chance = random.Random(n)
            for _ in range(12 if n < 3 else 5):
                pool = normal_polynomials(t, n)
                chosen = [chance.sample(pool, chance.randint(1, 4))
                          for _ in range(chance.randint(0, 5))]
                arguments = [product(field, [(p, 1) for p in some]) for some in chosen]
                found = self.check_parts(n, arguments)
                groups = {}
                for p in pool:
                    where = tuple(p in some for some in chosen)
                    if any(where):
                        groups.setdefault(where, []).append((p, 1))
                wanted = [product(field, pairs) for pairs in groups.values()]
                self.assertEqual(found, tuple(sorted(wanted, key=lambda p: (len(p), p))))

    def test_the_order_of_the_argument_does_not_matter(self):
        for t, n in ((X, 1), (LOG, 2), (tower("exp x", "exp t2"), 3)):
            field = t.field(n - 1)
            chance = random.Random(5)
            pool = normal_polynomials(t, n)
            arguments = [product(field, [(p, 1) for p in chance.sample(pool, 2)])
                         for _ in range(4)]
            wanted = coprime_parts(n, tuple(arguments))
            for _ in range(8):
                chance.shuffle(arguments)
                self.assertEqual(coprime_parts(n, tuple(arguments)), wanted)
                self.assertEqual(coprime_parts(n, tuple(arguments + arguments[:2])), wanted)


class OrderAt(PolesCase):
    def test_known_orders(self):
        for t, n in self.each_level():
            p, r, s = normal_polynomials(t, n)[:3]
            both = pmul(t.field(n - 1), p, r)
            for k in (-3, -1, 0, 1, 2):
                for m in (-2, 0, 1):
                    e = with_orders(t, n, [(p, k), (r, m), (s, 2)])
                    self.assertEqual(self.pure(order_at, n, p, e), k)
                    self.assertEqual(order_at(n, r, e), m)
                    self.assertEqual(order_at(n, both, e), k if k == m else None)

    def test_unlike_orders(self):
        both = q(2, -3, 1)
        for text, wanted in (("(x-1)*(x-2)", 1), ("(x-1)^2*(x-2)", None), ("x-1", None),
                             ("(x-1)/(x-2)", None), ("1/((x-1)*(x-2))", -1), ("1/(x-1)", None),
                             ("1/((x-1)^2*(x-2)^2)", -2), ("1/((x-1)^3*(x-2)^2)", None),
                             ("x+5", 0), ("7", 0), ("(x-1)^3*(x-2)^3/x", 3)):
            self.assertIs(self.pure(order_at, 1, both, el(1, text)), wanted)

    def test_polynomials_that_are_not_monic(self):
        self.assertEqual(order_at(1, q(-2, 2), el(1, "(x-1)^2/x")), 2)
        self.assertEqual(order_at(1, q(0, -3), el(1, "(x-1)^2/x")), -1)
        self.assertEqual(order_at(2, pol(1, "x^2", "x"), el(2, "1/(t2+x)^4")), -4)

    def test_elements_of_the_level_below(self):
        for t, n in self.each_level():
            for p in normal_polynomials(t, n):
                self.assertEqual(order_at(n, p, t.field(n).rational((3, 7))), 0)
                if n > 1:
                    self.assertEqual(order_at(n, p, el(n, "1/x")), 0)


if __name__ == "__main__":
    unittest.main()
