"""Chapter 7, points 7.1 to 7.4: values, sums of multiples, and points that show there is none."""

import itertools
import random
import unittest
from fractions import Fraction

from integraph.vectors import combination, is_apart, value
from tests.algebra import LEVELS, chance_element, el, lift, rat
from tests.helpers import ODD_VALUES, PureCase, nested

ZERO, ONE = (0, 1), (1, 1)


def point(*numbers):
    return tuple(rat(n) for n in numbers)


def slow_value(n, e, numbers):
    """By fractions of Python; None where a divisor is zero or a value is missing."""
    if n == 0:
        return Fraction(*e)
    values = []
    for p in e:
        coefficients = [slow_value(n - 1, c, numbers) for c in p]
        if None in coefficients:
            return None
        values.append(sum(c * numbers[n - 1] ** k for k, c in enumerate(coefficients)))
    return None if values[1] == 0 else Fraction(values[0]) / values[1]


def points_in_order(n):
    """The points of point 7.4, without end."""
    for size in itertools.count():
        if n == 0 and size > 0:
            return
        for numbers in itertools.product(range(-size, size + 1), repeat=n):
            if max(map(abs, numbers), default=0) == size:
                yield numbers


class Values(PureCase):
    def test_level_0(self):
        self.assertEqual(self.pure(value, 0, (-3, 7), ()), (-3, 7))
        self.assertEqual(value(0, ZERO, ()), ZERO)

    def test_level_1(self):
        e = el(1, "(x^2-1)/(x-2)")
        self.assertEqual(self.pure(value, 1, e, point(3)), (8, 1))
        self.assertEqual(value(1, e, point("1/2")), (1, 2))
        self.assertEqual(value(1, e, point(1)), (0, 1))
        self.assertIsNone(self.pure(value, 1, e, point(2)))
        self.assertEqual(value(1, el(1, "0"), point(0)), ZERO)

    def test_a_divisor_that_is_zero_at_the_end(self):
        self.assertIsNone(value(2, el(2, "1/(t2-x)"), point(3, 3)))
        self.assertEqual(value(2, el(2, "1/(t2-x)"), point(3, 4)), (1, 1))
        self.assertIsNone(value(3, el(3, "t2/(t3+t2*x)"), point(2, -1, 2)))
        self.assertIsNone(value(3, el(3, "1/t3"), point(1, 1, 0)))

    def test_a_divisor_that_is_zero_on_the_way(self):
        # At x = 0 the coefficient 1 / x is missing, although x / t2 + 1 / x has x t2 below.
        self.assertIsNone(value(2, el(2, "t2/x"), point(0, 5)))
        self.assertIsNone(value(2, el(2, "t2/x"), point(0, 0)))
        self.assertIsNone(value(2, el(2, "t2+1/x"), point(0, 1)))
        self.assertIsNone(value(2, el(2, "x*t2/(x*t2+1)"), point(0, 1)))
        self.assertIsNone(value(3, el(3, "t3/(t2-x)"), point(1, 1, 7)))
        self.assertIsNone(value(3, el(3, "t3*t2/x"), point(0, 1, 1)))
        self.assertEqual(value(3, el(3, "t3/(t2-x)"), point(1, 2, 7)), (7, 1))

    def test_against_fractions(self):
        chance = random.Random(1)
        missing = 0
        for n in range(4):
            for _ in range(40):
                e = chance_element(chance, LEVELS[n])
                numbers = [Fraction(chance.randint(-2, 2), chance.randint(1, 2))
                           for _ in range(n)]
                wanted = slow_value(n, e, numbers)
                found = self.pure(value, n, e, point(*numbers))
                self.assertEqual(found, None if wanted is None else rat(wanted))
                missing += wanted is None
        self.assertGreater(missing, 3)

    def test_values_of_sums_and_products(self):
        chance = random.Random(2)
        for n in (1, 2, 3):
            field = LEVELS[n]
            for _ in range(20):
                a, b = chance_element(chance, field), chance_element(chance, field)
                at = tuple(rat(Fraction(chance.randint(2, 9), 7)) for _ in range(n))
                one, two = value(n, a, at), value(n, b, at)
                if one is None or two is None:
                    continue
                self.assertEqual(value(n, field.add(a, b), at), LEVELS[0].add(one, two))
                self.assertEqual(value(n, field.multiply(a, b), at), LEVELS[0].multiply(one, two))


class CombinationCase(PureCase):
    def total(self, n, items, multiples):
        field = LEVELS[n]
        found = field.zero()
        for e, r in zip(items, multiples):
            found = field.add(found, field.multiply(e, lift(r, 0, n)))
        return found

    def sum_of(self, n, items, target):
        kind, r = self.pure(combination, n, items, target)
        self.assertEqual(kind, "sum")
        self.assertEqual(len(r), len(items))
        self.assertEqual(self.total(n, items, r), target)
        for at, e in enumerate(items):
            if combination(n, items[:at], e)[0] == "sum":
                self.assertEqual(r[at], ZERO)
        return r

    def apart(self, n, items, target):
        kind, rows = self.pure(combination, n, items, target)
        self.assertEqual(kind, "apart")
        self.assert_true(self.pure(is_apart, n, items, target, rows))
        totals = [Fraction(0)] * (len(items) + 1)
        for at, weight in rows:
            numbers = [Fraction(*k) for k in at]
            for k, e in enumerate(items + (target,)):
                totals[k] += slow_value(n, e, numbers) * Fraction(*weight)
        self.assertEqual(totals[:-1], [0] * len(items))
        self.assertNotEqual(totals[-1], 0)
        self.check_order(n, items + (target,), [at for at, _ in rows])
        return rows

    def check_order(self, n, all_items, points):
        """The rows have each point with all values up to the last one."""
        wanted = []
        for numbers in points_in_order(n):
            if len(wanted) == len(points):
                break
            values = [slow_value(n, e, [Fraction(k) for k in numbers]) for e in all_items]
            if None not in values:
                wanted.append(point(*numbers))
        self.assertEqual(points, wanted)


class Combination(CombinationCase):
    def test_the_example(self):
        items, target = (el(1, "1/x"),), el(1, "1/(x+1)")
        self.apart(1, items, target)
        self.assert_true(is_apart(1, items, target, ((point(1), rat(1)), (point(2), rat(-2)))))

    def test_without_items(self):
        for n in range(4):
            self.assertEqual(self.sum_of(n, (), LEVELS[n].zero()), ())
            self.apart(n, (), LEVELS[n].one())
            if n > 0:
                self.apart(n, (), el(n, f"1/t{n}"))
                self.apart(n, (), el(n, f"t{n}^3-t{n}"))

    def test_the_target_zero(self):
        for n in range(4):
            zero, one = LEVELS[n].zero(), LEVELS[n].one()
            for items in ((one,), (one, zero), (zero,), (zero, zero, one, one)):
                self.assertEqual(self.sum_of(n, items, zero), (ZERO,) * len(items))
            if n > 0:
                items = (el(n, f"t{n}"), el(n, f"1/(t{n}+1)"))
                self.assertEqual(self.sum_of(n, items, zero), (ZERO, ZERO))

    def test_level_0(self):
        self.assertEqual(self.sum_of(0, (rat(2),), rat(3)), ((3, 2),))
        self.assertEqual(self.sum_of(0, (rat(2), rat(5)), rat(-4)), ((-2, 1), ZERO))
        self.assertEqual(self.sum_of(0, (ZERO, rat(5)), rat(-4)), (ZERO, (-4, 5)))
        self.assertEqual(self.apart(0, (ZERO,), rat(-4))[0][0], ())
        self.assertEqual(len(self.apart(0, (), rat(7))), 1)

    def test_items_that_depend_on_those_before_them(self):
        x, t = el(2, "x"), el(2, "t2")
        both = el(2, "2*x-3*t2")
        self.assertEqual(self.sum_of(2, (x, x), x), (ONE, ZERO))
        self.assertEqual(self.sum_of(2, (x, t, both), both), ((2, 1), (-3, 1), ZERO))
        self.assertEqual(self.sum_of(2, (x, both, t), t), ((2, 3), (-1, 3), ZERO))
        self.assertEqual(self.sum_of(2, (both, el(2, "0"), x, t), t),
                         ((-1, 3), ZERO, (2, 3), ZERO))
        self.assertEqual(self.sum_of(2, (el(2, "0"), x), x), (ZERO, ONE))
        self.apart(2, (x, el(2, "2*x"), el(2, "0")), t)

    def test_four_items(self):
        items = tuple(el(1, text) for text in ("1", "x", "x^2", "x^3"))
        self.assertEqual(self.sum_of(1, items, el(1, "5-x/2+7*x^3")),
                         ((5, 1), (-1, 2), ZERO, (7, 1)))
        self.apart(1, items, el(1, "x^4"))
        items = tuple(el(3, text) for text in ("1/x", "t2/t3", "t3", "1/(t3+t2)"))
        self.sum_of(3, items, el(3, "3/x-2*t2/t3+t3/5-7/(t3+t2)"))
        self.apart(3, items, el(3, "1/t3"))

    def test_elements_with_zeros_at_the_first_points(self):
        for n in (1, 2):
            e = el(n, f"t{n}*(t{n}-1)*(t{n}+1)*(t{n}-2)*(t{n}+2)")
            self.apart(n, (), e)
            self.apart(n, (el(n, "0"),), e)
            self.assertEqual(self.sum_of(n, (e,), e), (ONE,))
            rows = self.apart(n, (el(n, f"t{n}"),), el(n, f"t{n}^3"))
            self.assertGreater(len(rows), 3)
        # x and x^3 agree at -1, 0 and 1: the points show a sum that is none.
        self.assertEqual(len(self.apart(1, (el(1, "x"),), el(1, "x^3"))), 4)

    def test_points_without_values_are_left_out(self):
        items, target = (el(1, "1/x"), el(1, "1/(x-1)")), el(1, "1/(x+1)")
        rows = self.apart(1, items, target)
        self.assertEqual([at for at, _ in rows], [point(-2), point(2), point(-3)])
        rows = self.apart(2, (el(2, "1/(t2-x)"),), el(2, "t2/x"))
        self.assertNotIn(point(0, 0), [at for at, _ in rows])

    def test_points_with_the_weight_zero_are_there(self):
        # The second point gives the same equation as the first one.
        rows = self.apart(1, (el(1, "x^2"),), el(1, "x^2+x^4-x^6"))
        self.assertIn(ZERO, [weight for _, weight in rows])
        rows = self.apart(2, (el(2, "x"),), el(2, "x^2"))
        self.assertGreater([weight for _, weight in rows].count(ZERO), 1)

    def test_many_sums(self):
        for n, rounds in ((0, 20), (1, 30), (2, 15), (3, 8)):
            chance = random.Random(n)
            for _ in range(rounds):
                items = tuple(chance_element(chance, LEVELS[n])
                              for _ in range(chance.randint(0, 4)))
                multiples = [rat(Fraction(chance.randint(-5, 5), chance.randint(1, 4)))
                             for _ in items]
                self.sum_of(n, items, self.total(n, items, multiples))

    def test_many_that_are_apart(self):
        for n, rounds in ((1, 30), (2, 15), (3, 8)):
            chance = random.Random(50 + n)
            for _ in range(rounds):
                items = tuple(chance_element(chance, LEVELS[n])
                              for _ in range(chance.randint(0, 4)))
                extra = el(n, f"t{n}^7/(t{n}^2+5)")
                self.apart(n, items, LEVELS[n].add(extra, self.total(n, items, [ONE] * 4)))

    def test_level_4(self):
        items = (el(4, "1/x"), el(4, "t3/t4"), el(4, "t2*t4"))
        self.sum_of(4, items, el(4, "2/x-t3/t4/3+5*t2*t4"))
        self.apart(4, items, el(4, "t3/(t4+1)"))


class Apart(PureCase):
    N, ITEMS, TARGET = 1, (el(1, "1/x"),), el(1, "1/(x+1)")
    ROWS = ((point(1), rat(1)), (point(2), rat(-2)))

    def is_apart(self, rows):
        return self.pure(is_apart, self.N, self.ITEMS, self.TARGET, rows)

    def test_rows_in_any_order_and_of_any_size(self):
        one, two = self.ROWS
        self.assert_true(self.is_apart(self.ROWS))
        self.assert_true(self.is_apart((two, one)))
        self.assert_true(self.is_apart((one, two, (point(7), ZERO))))
        self.assert_true(self.is_apart(((point(1), rat(-5)), (point(2), rat(10)))))
        self.assert_true(self.is_apart(((point("1/2"), rat(1)), (point(1), rat(-2)))))

    def test_wrong_weights_and_points(self):
        one, two = self.ROWS
        for rows in ((one,), (two,), (one, one), (one, (point(2), rat(2))),
                     (one, (point(3), rat(-2))), ((point(1), ZERO), (point(2), ZERO)), ()):
            self.assert_false(self.is_apart(rows))

    def test_a_point_without_values(self):
        one, two = self.ROWS
        for number in (0, -1):
            for weight in (0, 1):
                self.assert_false(self.is_apart((one, two, (point(number), rat(weight)))))

    def test_values_of_other_kinds(self):
        one, two = self.ROWS
        for other in ODD_VALUES + (nested(60, tuple), nested(60, list), "rows"):
            self.assert_false(self.is_apart(other))
            self.assert_false(self.is_apart((one, two, other)))
            self.assert_false(self.is_apart((one, two, (other, ZERO))))
            if other != (0, 1):
                self.assert_false(self.is_apart((one, two, (point(3), other))))
                self.assert_false(self.is_apart((one, two, ((other,), ZERO))))

    def test_lists(self):
        one, two = self.ROWS
        self.assert_false(self.is_apart(list(self.ROWS)))
        self.assert_false(self.is_apart([list(one), list(two)]))
        self.assert_false(self.is_apart((one, list(two))))
        self.assert_false(self.is_apart((one, ([(2, 1)], (-2, 1)))))
        self.assert_false(self.is_apart((one, (([2, 1],), (-2, 1)))))
        self.assert_false(self.is_apart((one, (point(2), [-2, 1]))))

    def test_points_of_another_length(self):
        one, two = self.ROWS
        for at in ((), point(1, 2), point(1, 2, 3)):
            self.assert_false(self.is_apart((one, two, (at, ZERO))))
        items, target = (el(2, "1/x"),), el(2, "1/(x+1)")
        good = ((point(1, 0), rat(1)), (point(2, 0), rat(-2)))
        self.assert_true(is_apart(2, items, target, good))
        self.assert_false(is_apart(2, items, target, self.ROWS))
        self.assert_false(is_apart(1, self.ITEMS, self.TARGET, good))

    def test_rationals_and_booleans(self):
        one, two = self.ROWS
        for weight in (-2, True, (-2, 1, 1), (-4, 2), (2, -1), (-2, True), None, "-2"):
            self.assert_false(self.is_apart((one, (point(2), weight))))
        for number in (2, (4, 2), (2, True), (True, 1), True, None):
            self.assert_false(self.is_apart((one, ((number,), (-2, 1)))))
        self.assert_false(self.is_apart((((1, 1), (1, 1)), two)))

    def test_pairs(self):
        one, _ = self.ROWS
        for row in ((point(2),), (point(2), rat(-2), ZERO), point(2) + (rat(-2), ZERO)):
            self.assert_false(self.is_apart((one, row)))

    def test_the_target_is_a_sum(self):
        # No rows can show what does not hold.
        chance = random.Random(4)
        items, target = (el(1, "x"), el(1, "x^2")), el(1, "3*x-x^2")
        for _ in range(100):
            rows = tuple((point(chance.randint(-3, 3)), rat(chance.randint(-4, 4)))
                         for _ in range(chance.randint(0, 5)))
            self.assert_false(is_apart(1, items, target, rows))

    def test_without_items_and_at_level_0(self):
        self.assert_true(is_apart(0, (), rat(3), (((), rat(1)),)))
        self.assert_false(is_apart(0, (), rat(3), (((), rat(1)), ((), rat(-1)))))
        self.assert_false(is_apart(0, (), ZERO, (((), rat(1)),)))
        self.assert_true(is_apart(1, (), el(1, "x"), ((point(1), rat(5)),)))
        self.assert_false(is_apart(1, (), el(1, "x"), ((point(0), rat(5)),)))


if __name__ == "__main__":
    unittest.main()
