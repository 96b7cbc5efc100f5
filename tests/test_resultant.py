"""Chapter 5: resultants, and divisors over roots, points 5.1 to 5.5."""

import random
import unittest

from integraph.divisor import pgcd, psolve, squarefree_part
from integraph.errors import Malformed, ZeroDivisor
from integraph.polynomial import (
    degree, is_polynomial, padd, pdivide, pmul, pneg, pquotient, psub, pvalue)
from integraph.resultant import linear_resultant, resultant, zdivisors, zresultant, zvalue
from tests.algebra import LEVELS, chance_polynomial, chance_rational, monic, pol, q, rat, zpol
from tests.helpers import PureCase

Q, QX, QXT = LEVELS[:3]


def sylvester(p, r, zero):
    """Returns the rows of the matrix of point 5.1."""
    m, n = len(p) - 1, len(r) - 1
    rows = []
    for items, count in ((p, n), (r, m)):
        for i in range(count):
            row = [zero] * i + list(reversed(items))
            rows.append(row + [zero] * (m + n - len(row)))
    return rows


class Ring:
    """What a determinant needs: the elements of a field, or the polynomials in z over it."""

    def __init__(self, zero, one, add, multiply, negative):
        self.zero, self.one, self.add = zero, one, add
        self.multiply, self.negative = multiply, negative


def ring_of_elements(field):
    return Ring(field.zero(), field.one(), field.add, field.multiply, field.negative)


def ring_of_polynomials(field):
    return Ring((), (field.one(),), lambda a, b: padd(field, a, b),
                lambda a, b: pmul(field, a, b), lambda a: pneg(field, a))


def determinant(ring, rows):
    """By the first column, and again for what is left."""
    if not rows:
        return ring.one
    total = ring.zero
    for at, row in enumerate(rows):
        if row[0] == ring.zero:
            continue
        inner = determinant(ring, [other[1:] for other in rows[:at] + rows[at + 1:]])
        term = ring.multiply(row[0], inner)
        total = ring.add(total, term if at % 2 == 0 else ring.negative(term))
    return total


def by_rule(ring, p, r):
    if not p or not r:
        return ring.zero
    return determinant(ring, sylvester(p, r, ring.zero))


def pairs_of_polynomials(field, count, most=3):
    chance = random.Random(7 + field.level())
    one = (field.one(),)
    three = (field.rational((3, 1)),)
    line = (field.rational((-2, 3)), field.one())
    found = [((), ()), ((), one), (one, ()), ((), line), (line, ()), (one, one), (three, one),
             (one, line), (three, line), (line, three), (line, line)]
    while len(found) < count:
        found.append(tuple(chance_polynomial(chance, field, chance.randint(0, most))
                           for _ in "ab"))
    return found


class Resultants(PureCase):
    def each(self):
        for field, count, most in ((Q, 60, 4), (QX, 30, 3), (QXT, 14, 1)):
            with self.subTest(level=field.level()):
                yield field, pairs_of_polynomials(field, count, most)

    def test_it_is_the_determinant_in_both_orders(self):
        for field, pairs in self.each():
            ring = ring_of_elements(field)
            for p, r in pairs:
                found = self.pure(resultant, field, p, r)
                self.assertEqual(found, by_rule(ring, p, r), (p, r))
                self.assertEqual(resultant(field, r, p), by_rule(ring, r, p), (r, p))
                self.assert_true(field.is_element(found))

    def test_the_sign_changes_if_both_degrees_are_odd(self):
        self.assertEqual(resultant(Q, q(0, 1), q(5, 1)), (5, 1))
        self.assertEqual(resultant(Q, q(5, 1), q(0, 1)), (-5, 1))
        self.assertEqual(resultant(Q, q(-2, 1), q(-3, 1)), (-1, 1))
        self.assertEqual(resultant(Q, q(-2, 1), q(-1, 0, 1)), (3, 1))
        self.assertEqual(resultant(Q, q(-1, 0, 1), q(-2, 1)), (3, 1))
        self.assertEqual(resultant(Q, q(-8, 0, 0, 1), q(1, 1)), (9, 1))
        self.assertEqual(resultant(Q, q(1, 1), q(-8, 0, 0, 1)), (-9, 1))

    def test_zero_and_constants(self):
        for field in LEVELS:
            one, two = (field.one(),), (field.rational((2, 1)),)
            line = (field.one(), field.one())
            for p in ((), one, two, line):
                self.assertEqual(resultant(field, p, ()), field.zero())
                self.assertEqual(resultant(field, (), p), field.zero())
            self.assertEqual(resultant(field, two, two), field.one())
            cube = pmul(field, line, pmul(field, line, line))
            self.assertEqual(resultant(field, two, cube), field.rational((8, 1)))
            self.assertEqual(resultant(field, cube, two), field.rational((8, 1)))
            self.assertEqual(resultant(field, line, two), field.rational((2, 1)))

    def test_of_a_product_it_is_the_product(self):
        for field, pairs in self.each():
            third = (field.rational((1, 2)), field.rational((-1, 1)), field.rational((3, 1)))
            for p, r in pairs[10:]:
                both = resultant(field, pmul(field, p, r), third)
                self.assertEqual(both, field.multiply(resultant(field, p, third),
                                                      resultant(field, r, third)))

    def test_it_is_zero_exactly_with_a_common_divisor(self):
        for field, pairs in self.each():
            line = (field.rational((4, 1)), field.one())
            for p, r in pairs:
                common = not p or not r or degree(pgcd(field, p, r)) > 0
                self.assertEqual(field.is_zero(resultant(field, p, r)), common)
                if p and r:
                    self.assertEqual(resultant(field, pmul(field, p, line), pmul(field, r, line)),
                                     field.zero())

    def test_it_is_a_product_over_roots(self):
        ones, twos = [1, -2, 3, 5], [0, -1, 7]
        p, r = q(4), q(-3)
        for root in ones:
            p = pmul(Q, p, q(-root, 1))
        for root in twos:
            r = pmul(Q, r, q(-root, 1))
        value = 4 ** 3 * (-3) ** 4
        for a in ones:
            for b in twos:
                value = value * (a - b)
        self.assertEqual(resultant(Q, p, r), (value, 1))

    def test_fields_of_level_3_and_4(self):
        for field in LEVELS[3:5]:
            t = field.variable()
            p = (field.negative(t), field.zero(), field.one())
            r = (field.negative(field.one()), t)
            # The root 1 / t of r in p, times the square of the last coefficient of r.
            cube = field.multiply(t, field.multiply(t, t))
            self.assertEqual(resultant(field, p, r), field.subtract(field.one(), cube))


def chance_over_z(chance, field, most, zmost):
    """Returns a polynomial over k[z] with coefficients of degrees up to zmost."""
    rows = [chance_polynomial(chance, field, chance.randint(0, zmost))
            for _ in range(chance.randint(0, most) + 1)]
    while rows and not rows[-1]:
        rows.pop()
    return tuple(rows)


def pairs_over_z(field, count, most, zmost):
    chance = random.Random(70 + field.level())
    one, z = (field.one(),), (field.zero(), field.one())
    found = [((), ()), ((), (one,)), ((z,), ()), ((one,), (one,)), ((z,), (z, one)),
             ((z, one), (z,)), ((z, one), (one, z)), (((), z), (z, one, z))]
    while len(found) < count:
        found.append(tuple(chance_over_z(chance, field, most, zmost) for _ in "ab"))
    return found


def zdegree(p):
    return max([len(c) for c in p], default=0) - 1


class OverZ(PureCase):
    def each(self):
        for field, count, most, zmost in ((Q, 50, 3, 2), (QX, 20, 2, 2), (QXT, 10, 1, 1)):
            with self.subTest(level=field.level()):
                yield field, pairs_over_z(field, count, most, zmost)

    def test_the_example(self):
        self.assertEqual(self.pure(zresultant, Q, ((), (), ((1, 1),)),
                                   (((0, 1), (-1, 1)), ((1, 1),))), ((0, 1), (0, 1), (1, 1)))

    def test_the_resultant_is_the_determinant_in_both_orders(self):
        for field, pairs in self.each():
            ring = ring_of_polynomials(field)
            for p, r in pairs:
                found = self.pure(zresultant, field, p, r)
                self.assertEqual(found, by_rule(ring, p, r))
                self.assertEqual(zresultant(field, r, p), by_rule(ring, r, p))
                self.assert_true(is_polynomial(field, found))

    def test_its_degree_has_the_bound(self):
        for field, pairs in self.each():
            for p, r in pairs:
                if p and r:
                    bound = degree(r) * zdegree(p) + degree(p) * zdegree(r)
                    self.assertLessEqual(degree(zresultant(field, p, r)), bound)

    def test_it_is_zero_for_zero_alone_and_for_common_divisors(self):
        for field, pairs in self.each():
            one = (field.one(),)
            for p, r in pairs:
                if not p or not r:
                    self.assertEqual(zresultant(field, p, r), ())
            self.assertEqual(zresultant(field, (), (one,)), ())
            self.assertEqual(zresultant(field, (one,), ()), ())
            self.assertEqual(zresultant(field, (one,), (one,)), one)
            line = ((field.zero(), field.one()), one)
            self.assertEqual(zresultant(field, line, line), ())

    def test_values_are_resultants_of_values_where_the_degrees_stay(self):
        for field, pairs in self.each():
            met = 0
            for p, r in pairs:
                for number in (-3, -1, 0, 1, 2, 7):
                    e = field.rational((number, 1))
                    one, two = zvalue(field, p, e), zvalue(field, r, e)
                    if len(one) == len(p) and len(two) == len(r):
                        met += 1
                        self.assertEqual(pvalue(field, zresultant(field, p, r), e),
                                         resultant(field, one, two))
            self.assertGreater(met, 20)

    def test_it_is_the_determinant_where_degrees_fall(self):
        # At z = 0 both last coefficients are zero: the determinant is zero there, although the
        # values, 1 and 1, have the resultant 1.
        p, r = (q(1), q(0, 1)), (q(1), q(0, 2))
        self.assertEqual(zresultant(Q, p, r), q(0, -1))
        self.assertEqual(resultant(Q, zvalue(Q, p, rat(0)), zvalue(Q, r, rat(0))), rat(1))

    def test_zvalue(self):
        p = (q(0, 1), (), q(-1, 0, 1))
        self.assertEqual(self.pure(zvalue, Q, p, rat(2)), q(2, 0, 3))
        self.assertEqual(zvalue(Q, p, rat(1)), q(1))
        self.assertEqual(zvalue(Q, (q(0, 1), q(0, 0, 5)), rat(0)), ())
        self.assertEqual(zvalue(Q, (), rat(4)), ())
        t = QX.variable()
        self.assertEqual(zvalue(QX, zpol(1, ("0", "1"), ("-x", "1")), t), pol(1, "x"))
        for field, pairs in self.each():
            for p, _ in pairs:
                e = field.rational((-2, 3))
                found = zvalue(field, p, e)
                self.assert_true(is_polynomial(field, found))
                slow = [pvalue(field, c, e) for c in p]
                self.assertEqual(found, tuple(slow[:len(found)]))
                self.assertTrue(all(field.is_zero(c) for c in slow[len(found):]))


def minus_z(field, a, b):
    """Returns a - z b as a polynomial over k[z], without the package's own help."""
    rows = []
    for k in range(max(len(a), len(b))):
        first = a[k] if k < len(a) else field.zero()
        second = field.negative(b[k]) if k < len(b) else field.zero()
        row = [first, second]
        while row and field.is_zero(row[-1]):
            row.pop()
        rows.append(tuple(row))
    return tuple(rows)


class Linear(PureCase):
    def check(self, field, p, a, b):
        found = self.pure(linear_resultant, field, p, a, b)
        over = tuple((c,) if not field.is_zero(c) else () for c in p)
        self.assertEqual(found, zresultant(field, over, minus_z(field, a, b)))
        self.assert_true(is_polynomial(field, found))
        if not p or (not a and not b):
            self.assertEqual(found, ())
        return found

    def test_it_is_zresultant_of_the_same_polynomials(self):
        for field, most, rounds in ((Q, 4, 60), (QX, 2, 25), (QXT, 1, 8)):
            chance = random.Random(field.level())
            for _ in range(rounds):
                p, a, b = [chance_polynomial(chance, field, chance.randint(0, most))
                           for _ in "pab"]
                for one, two in ((a, b), (a, ()), ((), b), ((), ())):
                    self.check(field, p, one, two)
                    self.check(field, (), one, two)

    def test_degrees_above_that_of_p(self):
        self.assertEqual(self.check(Q, q(0, 1), q(3, 0, 0, 2), q(1, 0, 0, 1)), q(3, -1))
        self.assertEqual(self.check(Q, q(1, 1), q(0, 0, 0, 2), q(1)), q(-2, -1))
        self.assertEqual(self.check(Q, q(2), q(1, 1), q(0, 0, 1)), q(4))

    def test_last_elements_that_leave_each_other(self):
        # t + 1 - z t is 1 at z = 1: the determinant counts the lost degree.
        self.assertEqual(self.check(Q, q(-1, 1), q(1, 1), q(0, 1)), q(2, -1))
        self.assertEqual(self.check(Q, q(-1, 0, 1), q(0, 1, 2), q(1, 0, 2)),
                         self.check(Q, q(-1, 0, 1), q(2, 1), q(3)))

    def test_the_sign(self):
        # One root b of p = t - b: the determinant has a(b) - z s(b), in this order.
        self.assertEqual(self.check(Q, q(-5, 1), q(0, 1), q(1)), q(5, -1))
        self.assertEqual(self.check(Q, q(-5, 1), q(0, 0, 1), q(1)), q(25, -1))

    def test_residues_of_a_sum_of_fractions(self):
        # The residues of 2/t + 3/(t - 1) are 2 and 3.
        self.assertEqual(monic(Q, self.check(Q, q(0, -1, 1), q(-2, 5), q(-1, 2))), q(6, -5, 1))


class Extension:
    """The field of a root of an irreducible polynomial; elements are polynomials in it."""

    def __init__(self, field, rho):
        self.field, self.rho = field, rho

    def reduced(self, c):
        return pdivide(self.field, c, self.rho)[1]

    def times(self, a, b):
        return self.reduced(pmul(self.field, a, b))

    def polynomial(self, p):
        rows = [self.reduced(c) for c in p]
        while rows and not rows[-1]:
            rows.pop()
        return rows

    def monic(self, p):
        inverse = psolve(self.field, p[-1], self.rho, (self.field.one(),))[0]
        return [self.times(c, inverse) for c in p]

    def divisor(self, p, r):
        """Returns the monic greatest common divisor by Euclid's algorithm."""
        p, r = self.polynomial(p), self.polynomial(r)
        while r:
            r = self.monic(r)
            rest = list(p)
            while len(rest) >= len(r):
                factor = rest.pop()
                for i, c in enumerate(r[:-1]):
                    at = len(rest) - len(r) + 1 + i
                    rest[at] = psub(self.field, rest[at], self.times(factor, c))
            p, r = r, self.polynomial(rest)
        return tuple(self.monic(p)) if p else ()


class Divisors(PureCase):
    def check(self, field, p, r, factors):
        """factors are irreducible; the modulus is their product."""
        modulus = (field.one(),)
        for rho in factors:
            modulus = pmul(field, modulus, rho)
        fields = [Extension(field, rho) for rho in factors]
        wanted = [k.divisor(p, r) for k in fields]
        if () in wanted:
            self.pure_raises(ZeroDivisor, zdivisors, field, p, r, modulus)
            return None
        found = self.pure(zdivisors, field, p, r, modulus)
        self.check_form(field, found, modulus)
        for k, h in zip(fields, wanted):
            for s, g in found:
                if pquotient(field, s, k.rho) is not None:
                    self.assertEqual(tuple(k.polynomial(g)), h)
        self.assertEqual([len(g) for _, g in found], sorted({len(h) for h in wanted}))
        return found

    def check_form(self, field, found, modulus):
        product = (field.one(),)
        for s, h in found:
            self.assert_true(is_polynomial(field, s))
            self.assertGreater(degree(s), 0)
            self.assertEqual(s[-1], field.one())
            self.assertEqual(h[-1], (field.one(),))
            for c in h:
                self.assert_true(is_polynomial(field, c))
                self.assertLess(degree(c), degree(s))
            product = pmul(field, product, s)
        self.assertEqual(product, modulus)
        lengths = [len(h) for _, h in found]
        self.assertEqual(lengths, sorted(set(lengths)))

    def test_the_example(self):
        self.assertEqual(
            zdivisors(Q, (((-2, 1),), (), ((1, 1),)), (((0, 1), (-1, 1)), ((1, 1),)),
                      ((-2, 1), (0, 1), (1, 1))),
            ((((-2, 1), (0, 1), (1, 1)), (((0, 1), (-1, 1)), ((1, 1),))),))

    def pieces(self, n):
        """Returns polynomials over k[z] that have common divisors at some roots."""
        rows = [(("0", "-1"), ("1",)), (("-1",), ("1",)), (("0", "0", "-1"), ("1",)),
                (("-2",), (), ("1",)), (("1",), ("-1", "1")), (("3", "1"), (), ("-2", "0", "1")),
                (("-1", "1"),), (("2", "0", "-1"),), (("1", "1"), ("0", "1"), ("-4", "0", "1"))]
        if n > 0:
            rows += [(("-x",), ("1",)), (("0", "x"), ("-x", "1")), (("x", "1"), ("0", "1"))]
        return [zpol(n, *row) for row in rows]

    def factors(self, n):
        found = [("-1", "1"), ("0", "1"), ("2", "1"), ("-2", "0", "1"), ("1", "0", "1"),
                 ("-2", "0", "0", "1")]
        if n > 0:
            found += [("-x", "1"), ("-x", "0", "1"), ("1/x", "1")]
        return [pol(n, *row) for row in found]

    def product(self, field, rows):
        found = ((field.one(),),)
        for row in rows:
            total = [()] * (len(found) + len(row) - 1)
            for i, a in enumerate(found):
                for j, b in enumerate(row):
                    total[i + j] = padd(field, total[i + j], pmul(field, a, b))
            found = tuple(total)
        return found

    def test_many_products(self):
        for n, rounds in ((0, 120), (1, 40)):
            chance = random.Random(17 + n)
            field = LEVELS[n]
            raised, long = 0, 0
            for _ in range(rounds):
                pieces, factors = self.pieces(n), self.factors(n)
                p, r = [self.product(field, chance.sample(pieces, chance.randint(0, 4)))
                        for _ in "pr"]
                factors = chance.sample(factors, chance.randint(1, 3))
                found = self.check(field, p, r, factors)
                raised += found is None
                long += found is not None and len(found) > 1
            self.assertGreater(raised, 0)
            self.assertGreater(long, rounds // 10)

    def test_chance_polynomials(self):
        chance = random.Random(5)
        for _ in range(60):
            p, r = [chance_over_z(chance, Q, 3, 2) for _ in "pr"]
            self.check(Q, p, r, chance.sample(self.factors(0), 2))

    def test_polynomials_with_many_zeros_among_their_coefficients(self):
        # Degrees fall by more than one on the way.
        for n, most, rounds in ((0, 6, 250), (1, 4, 60)):
            chance = random.Random(31 + n)
            field = LEVELS[n]
            for _ in range(rounds):
                base = self.sparse(chance, field, 2) or ((field.one(),),)
                p, r = [self.sparse(chance, field, chance.randint(0, most)) for _ in "pr"]
                p, r = [self.product(field, [base, row]) if row else () for row in (p, r)]
                self.check(field, p, r, chance.sample(self.factors(n), chance.randint(1, 2)))
                ring = ring_of_polynomials(field)
                if len(p) + len(r) < 9:
                    self.assertEqual(zresultant(field, p, r), by_rule(ring, p, r))

    def sparse(self, chance, field, most):
        rows = []
        for _ in range(most + 1):
            row = chance_polynomial(chance, LEVELS[0], chance.randint(0, 2))
            rows.append(tuple(field.rational(c) for c in row) if chance.random() < 0.4 else ())
        while rows and not rows[-1]:
            rows.pop()
        return tuple(rows)

    def test_zero_beside_another_polynomial(self):
        for n in (0, 1):
            field = LEVELS[n]
            for p in self.pieces(n):
                for rho in self.factors(n):
                    self.check(field, p, (), [rho])
                    self.check(field, (), p, [rho])
        self.assertEqual(zdivisors(Q, (), (q(1), q(3)), q(-1, 1)),
                         ((q(-1, 1), (q("1/3"), q(1))),))

    def test_rational_roots_one_by_one(self):
        chance = random.Random(9)
        roots = (-2, 0, 1, 3, 7)
        modulus = q(1)
        for root in roots:
            modulus = pmul(Q, modulus, q(-root, 1))
        for _ in range(40):
            p, r = [self.product(Q, chance.sample(self.pieces(0), 2)) for _ in "pr"]
            values = [(zvalue(Q, p, rat(c)), zvalue(Q, r, rat(c))) for c in roots]
            if ((), ()) in values:
                self.pure_raises(ZeroDivisor, zdivisors, Q, p, r, modulus)
                continue
            found = self.pure(zdivisors, Q, p, r, modulus)
            self.check_form(Q, found, modulus)
            for c, (one, two) in zip(roots, values):
                here = [h for s, h in found if pvalue(Q, s, rat(c)) == rat(0)]
                self.assertEqual([zvalue(Q, h, rat(c)) for h in here], [pgcd(Q, one, two)])

    def test_last_coefficients_that_vanish_at_some_roots(self):
        # (z^2 - 2) t^2 + t and t: at the roots of z^2 - 2 as well as at 1 the divisor is t.
        p, r = zpol(0, (), ("1",), ("-2", "0", "1")), zpol(0, (), ("1",))
        modulus = pmul(Q, q(-2, 0, 1), q(-1, 1))
        self.assertEqual(zdivisors(Q, p, r, modulus), ((modulus, ((), q(1))),))
        # (z - 1) t^2 + 1 is 1 at z = 1, and t^2 + 1 at z = 2.
        p = zpol(0, ("1",), (), ("-1", "1"))
        found = zdivisors(Q, p, (), pmul(Q, q(-1, 1), q(-2, 1)))
        self.assertEqual(found, ((q(-1, 1), (q(1),)), (q(-2, 1), (q(1), (), q(1)))))

    def test_a_modulus_of_another_form(self):
        p = zpol(0, ("1",), ("1",))
        for modulus in ((), q(1), q(3), q(1, 2), q(-2, 0, 2), q(0, 0, 1), q(1, 2, 1),
                        q(4, 0, -4, 0, 1)):
            self.pure_raises(Malformed, zdivisors, Q, p, p, modulus)
            self.pure_raises(Malformed, zdivisors, Q, (), (), modulus)
        t = QX.variable()
        one, two = QX.one(), QX.rational((2, 1))
        line = zpol(1, ("1",), ("1",))
        square = (QX.multiply(t, t), QX.multiply(two, t), one)
        for modulus in ((), (one,), (t,), (one, t), square):
            self.pure_raises(Malformed, zdivisors, QX, line, line, modulus)
            self.pure_raises(Malformed, zdivisors, QX, (), (), modulus)

    def test_both_values_zero(self):
        for p, r in (((), ()), ((q(-1, 1),), ()), ((), (q(-1, 1), q(0, -1, 1))),
                     ((q(-1, 1),), (q(-2, 1, 1), q(1, -2, 1)))):
            self.pure_raises(ZeroDivisor, zdivisors, Q, p, r, q(-1, 1))
            self.pure_raises(ZeroDivisor, zdivisors, Q, r, p, q(0, -1, 1))
        # A root that is no rational, also beside other roots.
        p, r = (q(-2, 0, 1), q(0, -2, 0, 1)), (q(2, 0, -1),)
        for other in (q(1), q(0, 1), q(-3, 0, 1)):
            self.pure_raises(ZeroDivisor, zdivisors, Q, p, r, pmul(Q, q(-2, 0, 1), other))
        p = zpol(1, ("-x", "0", "1"))
        self.pure_raises(ZeroDivisor, zdivisors, QX, p, (), pol(1, "-x", "0", "1"))
        self.pure_raises(ZeroDivisor, zdivisors, QX, p, p, pol(1, "0", "-x", "0", "1"))

    def test_pieces_of_one_length_are_put_together(self):
        # At each root c of the modulus the divisor of t - z and (t - z) (t - 5) is t - c.
        p = zpol(0, ("0", "-1"), ("1",))
        r = self.product(Q, [p, zpol(0, ("-5",), ("1",))])
        modulus = pmul(Q, q(-2, 0, 1), q(0, -1, 1))
        self.assertEqual(zdivisors(Q, p, r, modulus), ((modulus, p),))
        # Divisors t - c at the roots 1 and 2, t^2 - 3 t + 2 at no root: still one pair.
        r = zpol(0, ("2",), ("-3",), ("1",))
        self.assertEqual(zdivisors(Q, p, r, q(2, -3, 1)), ((q(2, -3, 1), p),))
        self.assertEqual(zdivisors(Q, p, r, q(0, 2, -3, 1)),
                         ((q(0, 1), (q(1),)), (q(2, -3, 1), p)))

    def test_a_field_of_level_2(self):
        p = zpol(2, ("0", "-1"), ("1",))
        r = zpol(2, ("-t2",), (), ("1",))
        modulus = pmul(QXT, pol(2, "-t2", "0", "1"), pol(2, "-x", "1"))
        self.assertEqual(zdivisors(QXT, p, r, modulus),
                         ((pol(2, "-x", "1"), zpol(2, ("1",))), (pol(2, "-t2", "0", "1"), p)))

    def test_the_modulus_need_only_be_squarefree(self):
        chance = random.Random(23)
        met = 0
        while met < 30:
            modulus = squarefree_part(Q, tuple(chance_rational(chance) for _ in "abc") + q(1))
            if degree(modulus) < 1:
                continue
            met += 1
            p, r = [chance_over_z(chance, Q, 2, 1) for _ in "pr"]
            try:
                self.check_form(Q, self.pure(zdivisors, Q, p, r, modulus), modulus)
            except ZeroDivisor:
                pass


if __name__ == "__main__":
    unittest.main()
