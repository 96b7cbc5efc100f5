"""The helpers under chapter 3: polynomials with integer coefficients, and ratios of them."""

import random
import unittest

from integraph.clearing import cleared, element_of, in_lowest_terms, over, ratio_of
from integraph.field import RationalFunctions, Rationals
from integraph.wholes import (
    wadd, wcofactors, wcommon, wconstant, wdivide, wformal, wmul, wpow, wquotient, wscale, wsub)
from tests.helpers import PureCase

LEVELS = [Rationals()]
for _ in range(4):
    LEVELS.append(RationalFunctions(LEVELS[-1]))


def chance_whole(chance, n, size=2, height=4):
    if n == 0:
        return chance.randint(-height, height)
    items = [chance_whole(chance, n - 1, size, height) for _ in range(chance.randint(0, size) + 1)]
    while items and not items[-1]:
        items.pop()
    return tuple(items)


def terms(n, p):
    """Returns the polynomial as a dict from the exponents to the integers that are not zero."""
    if n == 0:
        return {(): p} if p else {}
    return {powers + (k,): e for k, a in enumerate(p) for powers, e in terms(n - 1, a).items()}


def some(n, count=12):
    chance = random.Random(n)
    found = [wconstant(n, k) for k in (0, 1, -1, 6)]
    while len(found) < count:
        found.append(chance_whole(chance, n))
    return found


class Arithmetic(PureCase):
    def test_sums_differences_products(self):
        for n in range(4):
            for p in some(n):
                for r in some(n):
                    left, right = terms(n, p), terms(n, r)
                    self.assertEqual(terms(n, self.pure(wadd, n, p, r)), added(left, right, 1))
                    self.assertEqual(terms(n, self.pure(wsub, n, p, r)), added(left, right, -1))
                    expected = {}
                    for one, e in left.items():
                        expected = added(expected, {
                            tuple(a + b for a, b in zip(one, two)): e * f
                            for two, f in right.items()}, 1)
                    self.assertEqual(terms(n, self.pure(wmul, n, p, r)), expected)

    def test_no_zeros_at_the_end(self):
        for n in range(1, 4):
            for p in some(n):
                for r in some(n):
                    for result in (wadd(n, p, r), wsub(n, p, r), wmul(n, p, r), wsub(n, p, p)):
                        self.assertEqual(trimmed(n, result), result)

    def test_powers_and_scales(self):
        for n in range(4):
            for p in some(n):
                expected = wconstant(n, 1)
                for k in range(5):
                    self.assertEqual(self.pure(wpow, n, p, k), expected)
                    expected = wmul(n, expected, p)
        for n in range(1, 4):
            for p in some(n):
                for e in some(n - 1):
                    if e:
                        self.assertEqual(self.pure(wscale, n, p, e), wmul(n, p, (e,)))

    def test_formal_derivatives(self):
        for n in range(1, 4):
            for p in some(n):
                expected = {powers[:-1] + (powers[-1] - 1,): e * powers[-1]
                            for powers, e in terms(n, p).items() if powers[-1]}
                self.assertEqual(terms(n, self.pure(wformal, n, p)), expected)

    def test_quotients(self):
        for n in range(4):
            for p in some(n):
                for r in some(n):
                    if r:
                        self.assertEqual(self.pure(wquotient, n, wmul(n, p, r), r), p)
                        found = wquotient(n, p, r)
                        if found is not None:
                            self.assertEqual(wmul(n, found, r), p)
        self.assertIsNone(wquotient(0, 7, 2))
        self.assertIsNone(wquotient(1, (1, 1), (2,)))
        self.assertIsNone(wquotient(1, (1, 1), (0, 1)))
        self.assertIsNone(wquotient(1, (1,), (1, 1)))
        self.assertIsNone(wquotient(1, (1, 0, 1), (1, 1)))

    def test_division(self):
        for n in range(1, 4):
            for p in some(n):
                for r in some(n):
                    if r:
                        e, s, rest = self.pure(wdivide, n, p, r)
                        self.assertTrue(e)
                        self.assertLess(len(rest), len(r))
                        self.assertEqual(wmul(n, (e,), p), wadd(n, wmul(n, s, r), rest))


def added(one, two, sign):
    found = dict(one)
    for powers, e in two.items():
        found[powers] = found.get(powers, 0) + sign * e
    return {powers: e for powers, e in found.items() if e}


def trimmed(n, p):
    if n == 0:
        return p
    items = [trimmed(n - 1, a) for a in p]
    while items and not items[-1]:
        items.pop()
    return tuple(items)


class CommonDivisors(PureCase):
    def check(self, n, p, r, c):
        common, left, right = self.pure(wcommon, n, p, r)
        self.assertEqual(wmul(n, common, left), p)
        self.assertEqual(wmul(n, common, right), r)
        self.assertIsNotNone(wquotient(n, common, c))
        # No divisor is left: what is common to both quotients is 1 or -1.
        again, _, _ = wcommon(n, left, right)
        self.assertIn(again, (wconstant(n, 1), wconstant(n, -1)))

    def test_all(self):
        chance = random.Random(77)
        for n, count in ((0, 60), (1, 200), (2, 120), (3, 60), (4, 15)):
            for _ in range(count):
                p, r, c = [chance_whole(chance, n) for _ in range(3)]
                if c and (p or r):
                    self.check(n, wmul(n, p, c), wmul(n, r, c), c)

    def test_powers_of_the_variables(self):
        for n in range(1, 4):
            t = (wconstant(n - 1, 0), wconstant(n - 1, 1))
            for p in some(n):
                for r in some(n):
                    if p:
                        self.check(n, wmul(n, p, wpow(n, t, 5)), wmul(n, r, wpow(n, t, 3)),
                                   wpow(n, t, 3))

    def test_great_integers(self):
        c = (10 ** 50 + 1, -3, 7 ** 60)
        p, r = wmul(1, c, (5 ** 80, 1)), wmul(1, c, (-2, 0, 3 ** 70))
        self.assertIn(wcommon(1, p, r)[0], (c, wsub(1, (), c)))

    def test_integers_in_front(self):
        common, left, right = wcommon(1, (12, 12), (18, 0, -18))
        self.assertEqual((abs(common[0]), len(common)), (6, 2))
        self.assertEqual(wmul(1, common, left), (12, 12))
        self.assertEqual(wmul(1, common, right), (18, 0, -18))

    def test_cofactors(self):
        chance = random.Random(5)
        for n, count in ((1, 150), (2, 60), (3, 20)):
            for _ in range(count):
                p, r = chance_whole(chance, n), chance_whole(chance, n)
                if not r:
                    continue
                _, p, r = wcommon(n, p, r)
                u, v, e = self.pure(wcofactors, n, p, r)
                self.assertTrue(e)
                self.assertEqual(wadd(n, wmul(n, u, p), wmul(n, v, r)), (e,))
                self.assertLess(len(u), max(2, len(r)))


class Ratios(PureCase):
    def test_there_and_back(self):
        chance = random.Random(8)
        for n in range(5):
            for _ in range((20, 20, 15, 8, 4)[n]):
                size = 2 if n < 4 else 1
                a, b = chance_whole(chance, n, size), chance_whole(chance, n, size)
                if not b:
                    continue
                e = self.pure(element_of, n, in_lowest_terms(n, a, b))
                self.assert_true(LEVELS[n].is_element(e))
                top, bottom = self.pure(ratio_of, n, e)
                self.assertEqual(wmul(n, top, b), wmul(n, bottom, a))
                common, _, _ = wcommon(n, top, bottom)
                self.assertIn(common, (wconstant(n, 1), wconstant(n, -1)))

    def test_cleared_polynomials(self):
        chance = random.Random(3)
        for n in range(3):
            for _ in range(15):
                p, e = chance_whole(chance, n + 1), chance_whole(chance, n)
                if e:
                    polynomial = self.pure(over, n, p, e)
                    whole, divisor = self.pure(cleared, n, polynomial)
                    self.assertEqual(over(n, whole, divisor), polynomial)
                    self.assertEqual(wscale(n + 1, whole, e), wscale(n + 1, p, divisor))


if __name__ == "__main__":
    unittest.main()
