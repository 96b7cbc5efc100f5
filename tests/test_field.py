"""Chapter 3: the fields of the rational numbers and of rational functions, points 3.1 and 3.2."""

import random
import unittest
from fractions import Fraction

from integraph.errors import ZeroDivisor
from integraph.field import RationalFunctions, Rationals
from integraph.polynomial import padd, pdivide, pmul, pscale
from tests.fields import SmallFunctions, SmallRationals
from tests.helpers import ODD_VALUES, PureCase, nested

LEVELS = [Rationals()]
for _ in range(5):
    LEVELS.append(RationalFunctions(LEVELS[-1]))
Q, QX, QXT = LEVELS[:3]
SMALL = SmallFunctions()

ZERO, ONE = (0, 1), (1, 1)
X = ((ZERO, ONE), (ONE,))


def q(*numbers):
    return tuple(Fraction(n).as_integer_ratio() for n in numbers)


def is_polynomial(level, value):
    """By point 3.2, without the package."""
    return (type(value) is tuple and all(is_normal(level, item) for item in value)
            and (not value or value[-1] != zero(level)))


def zero(level):
    return ZERO if level == 0 else ((), (one(level - 1),))


def one(level):
    return ONE if level == 0 else ((one(level - 1),), (one(level - 1),))


def is_normal(level, value):
    """Whether a value is an element in its one form; by point 3.1, and by Euclid's algorithm."""
    if level == 0:
        return SmallRationals().is_element(value)
    if level == 1:
        return SMALL.is_element(value)
    if type(value) is not tuple or len(value) != 2:
        return False
    num, den = value
    if not is_polynomial(level - 1, num) or not is_polynomial(level - 1, den):
        return False
    return den != () and den[-1] == one(level - 1) and coprime(LEVELS[level - 1], num, den)


def coprime(field, p, r):
    while r:
        p, r = r, pdivide(field, p, r)[1]
        r = pscale(field, r, field.inverse(r[-1])) if r else r
    return len(p) == 1


def chance_element(chance, field):
    level = field.level()
    if level == 0:
        return Fraction(chance.randint(-5, 5), chance.randint(1, 4)).as_integer_ratio()
    size = 3 if level == 1 else 2
    top = chance_polynomial(chance, field.base, chance.randint(0, size))
    bottom = chance_polynomial(chance, field.base, chance.randint(1, size))
    return field.fraction(top, bottom or (field.base.one(),))


def chance_polynomial(chance, field, size):
    items = [chance_element(chance, field) for _ in range(size)]
    while items and field.is_zero(items[-1]):
        items.pop()
    return tuple(items)


def some_elements(field, count):
    """Returns elements: the edges first, then chance ones."""
    chance = random.Random(11 + field.level())
    found = [field.zero(), field.one(), field.rational((-1, 1)), field.rational((2, 3))]
    while field.level() > 0 and len(found) < 7:
        t = field.variable()
        found += [t, field.divide(field.one(), t),
                  field.divide(field.add(t, found[3]), field.subtract(t, found[1]))]
    if field.level() > 1:
        inner = some_elements(field.base, 7)[-3:]
        found += [field.lift(inner[0]), field.add(field.variable(), field.lift(inner[2]))]
    while len(found) < count:
        found.append(chance_element(chance, field))
    return found


class Fields(PureCase):
    def each(self, *counts):
        for field, count in zip(LEVELS, counts):
            with self.subTest(level=field.level()):
                yield field, some_elements(field, count)

    def assert_element(self, field, value):
        self.assertTrue(is_normal(field.level(), value), value)
        self.assert_true(field.is_element(value))


class Laws(Fields):
    def test_results_are_elements(self):
        for field, some in self.each(14, 14, 12):
            for a in some:
                self.assert_element(field, a)
                self.assert_element(field, self.pure(field.negative, a))
                for b in some:
                    self.assert_element(field, self.pure(field.add, a, b))
                    self.assert_element(field, self.pure(field.subtract, a, b))
                    self.assert_element(field, self.pure(field.multiply, a, b))
                    if not field.is_zero(b):
                        self.assert_element(field, self.pure(field.divide, a, b))

    def test_sums_and_products_are_those_of_the_small_fields(self):
        for field, small in ((Q, SmallRationals()), (QX, SMALL)):
            some = some_elements(field, 18)
            for a in some:
                self.assertEqual(field.negative(a), small.negative(a))
                for b in some:
                    self.assertEqual(field.add(a, b), small.add(a, b))
                    self.assertEqual(field.subtract(a, b), small.subtract(a, b))
                    self.assertEqual(field.multiply(a, b), small.multiply(a, b))
                    if not field.is_zero(b):
                        self.assertEqual(field.divide(a, b), small.divide(a, b))

    def test_sums_and_products_by_numerators(self):
        # a/b + c/d = (a d + b c)/(b d), brought to its one form by `fraction`.
        for field in LEVELS[1:3]:
            base = field.base
            some = some_elements(field, 12)
            for a, b in some:
                for c, d in some:
                    bottom = pmul(base, b, d)
                    total = padd(base, pmul(base, a, d), pmul(base, b, c))
                    self.assertEqual(field.add((a, b), (c, d)), field.fraction(total, bottom))
                    self.assertEqual(field.multiply((a, b), (c, d)),
                                     field.fraction(pmul(base, a, c), bottom))

    def test_two_at_a_time(self):
        for field, some in self.each(14, 14, 12):
            for a in some:
                self.assertEqual(field.add(a, field.zero()), a)
                self.assertEqual(field.multiply(a, field.one()), a)
                self.assertEqual(field.multiply(a, field.zero()), field.zero())
                self.assertEqual(field.add(a, field.negative(a)), field.zero())
                self.assertEqual(field.subtract(a, a), field.zero())
                self.assertEqual(field.negative(field.negative(a)), a)
                for b in some:
                    self.assertEqual(field.add(a, b), field.add(b, a))
                    self.assertEqual(field.multiply(a, b), field.multiply(b, a))
                    self.assertEqual(field.subtract(a, b), field.add(a, field.negative(b)))
                    self.assertEqual(field.add(field.subtract(a, b), b), a)

    def test_three_at_a_time(self):
        for field, some in self.each(7, 9, 10):
            for a in some:
                for b in some:
                    for c in some[2:]:
                        self.assertEqual(field.add(field.add(a, b), c),
                                         field.add(a, field.add(b, c)))
                        self.assertEqual(field.multiply(field.multiply(a, b), c),
                                         field.multiply(a, field.multiply(b, c)))
                        self.assertEqual(field.multiply(a, field.add(b, c)), field.add(
                            field.multiply(a, b), field.multiply(a, c)))

    def test_inverses_and_quotients(self):
        for field, some in self.each(14, 14, 12):
            for a in some:
                if field.is_zero(a):
                    continue
                inverse = self.pure(field.inverse, a)
                self.assert_element(field, inverse)
                self.assertEqual(field.multiply(a, inverse), field.one())
                self.assertEqual(field.inverse(inverse), a)
                self.assertEqual(field.divide(a, a), field.one())
                self.assertEqual(field.divide(field.zero(), a), field.zero())
                for b in some:
                    self.assertEqual(field.divide(b, a), field.multiply(b, inverse))
                    self.assertEqual(field.multiply(field.divide(b, a), a), b)

    def test_powers(self):
        for field, some in self.each(10, 10, 9):
            for a in some:
                expected = field.one()
                for k in range(5):
                    self.assertEqual(self.pure(field.power, a, k), expected)
                    self.assert_element(field, expected)
                    if not field.is_zero(a):
                        self.assertEqual(self.pure(field.power, a, -k), field.inverse(expected))
                    expected = field.multiply(expected, a)

    def test_powers_of_zero_and_one(self):
        for field in LEVELS:
            self.assertEqual(field.power(field.zero(), 0), field.one())
            for k in (1, 2, 9, 10 ** 20):
                self.assertEqual(field.power(field.zero(), k), field.zero())
            for k in (0, 1, 10 ** 20, -1, -10 ** 20):
                self.assertEqual(field.power(field.one(), k), field.one())

    def test_great_powers(self):
        t = QX.variable()
        self.assertEqual(QX.power(t, -300), ((ONE,), (ZERO,) * 300 + (ONE,)))
        p = QX.power(QX.add(t, QX.one()), 40)
        self.assertEqual(p[0][20], (137846528820, 1))
        self.assertEqual(QX.multiply(p, QX.power(QX.add(t, QX.one()), -41)),
                         QX.inverse(QX.add(t, QX.one())))

    def test_division_by_zero(self):
        for field in LEVELS:
            self.pure_raises(ZeroDivisor, field.inverse, field.zero())
            for a in (field.zero(), field.one(), field.rational((-5, 2))):
                self.pure_raises(ZeroDivisor, field.divide, a, field.zero())
            for k in (-1, -2, -10 ** 20):
                self.pure_raises(ZeroDivisor, field.power, field.zero(), k)


class OneForm(Fields):
    def test_levels(self):
        for level, field in enumerate(LEVELS):
            self.assertEqual(field.level(), level)
            self.assertEqual(field.zero(), zero(level))
            self.assertEqual(field.one(), one(level))

    def test_the_base(self):
        for field, base in zip(LEVELS[1:], LEVELS):
            self.assertIs(field.base, base)

    def test_zero(self):
        for field, some in self.each(14, 14, 12):
            for a in some:
                self.assertIs(self.pure(field.is_zero, a), a == zero(field.level()))

    def test_the_example(self):
        x = RationalFunctions(Rationals()).variable()
        self.assertEqual(RationalFunctions(Rationals()).divide(x, x), (((1, 1),), ((1, 1),)))

    def test_variables(self):
        self.assertEqual(QX.variable(), X)
        for field in LEVELS[1:]:
            base = field.base
            self.assertEqual(field.variable(), ((base.zero(), base.one()), (base.one(),)))
            self.assert_true(field.is_element(field.variable()))

    def test_known_forms(self):
        # 2 x / (4 x - 2) = (x / 2) / (x - 1/2) over the rationals
        self.assertEqual(QX.fraction(q(0, 2), q(-2, 4)), (q(0, Fraction(1, 2)), q(Fraction(-1, 2), 1)))
        # (x^2 - 1)/(x - 1) = x + 1
        self.assertEqual(QX.fraction(q(-1, 0, 1), q(-1, 1)), (q(1, 1), q(1)))
        # 1/(x t + 1) = (1/x) / (t + 1/x)
        t, x = QXT.variable(), QXT.lift(X)
        over_x = QX.inverse(X)
        self.assertEqual(QXT.inverse(QXT.add(QXT.multiply(t, x), QXT.one())),
                         ((over_x,), (over_x, QX.one())))
        # (x t + x)/(t + 1) = x
        self.assertEqual(QXT.fraction((X, X), (QX.one(), QX.one())), ((X,), (QX.one(),)))

    def test_cancelling_sums(self):
        # 1/(x (x + 1)) + 1/(x + 1) = 1/x
        a = QX.inverse(QX.multiply(X, QX.add(X, QX.one())))
        b = QX.inverse(QX.add(X, QX.one()))
        self.assertEqual(QX.add(a, b), QX.inverse(X))
        t = QXT.variable()
        # t/(t - x) - x/(t - x) = 1
        line = QXT.subtract(t, QXT.lift(X))
        self.assertEqual(QXT.subtract(QXT.divide(t, line), QXT.divide(QXT.lift(X), line)), QXT.one())


class Fractions(Fields):
    def test_fractions(self):
        for field in LEVELS[1:3]:
            chance = random.Random(5)
            base = field.base
            for _ in range(40 if field is QX else 15):
                p, r, c = [chance_polynomial(chance, base, chance.randint(0, 3)) for _ in range(3)]
                if r and c:
                    a = self.pure(field.fraction, p, r)
                    self.assert_element(field, a)
                    # The same element after multiplying both by c.
                    self.assertEqual(field.fraction(pmul(base, p, c), pmul(base, r, c)), a)
                    # num r = den p
                    self.assertEqual(pmul(base, a[0], r), pmul(base, a[1], p))

    def test_zero_on_top(self):
        for field in LEVELS[1:]:
            t = (field.base.zero(), field.base.one())
            self.assertEqual(field.fraction((), t), field.zero())
            self.assertEqual(field.fraction(t, (field.base.one(),)), field.variable())

    def test_zero_below(self):
        for field in LEVELS[1:]:
            for p in ((), (field.base.one(),), (field.base.zero(), field.base.one())):
                self.pure_raises(ZeroDivisor, field.fraction, p, ())


class Lifting(Fields):
    def test_lift_and_lowered(self):
        for field in LEVELS[1:4]:
            for e in some_elements(field.base, 9):
                lifted = self.pure(field.lift, e)
                self.assert_true(field.is_element(lifted))
                self.assertEqual(self.pure(field.lowered, lifted), e)
                self.assertEqual(lifted[1], (field.base.one(),))

    def test_lift_keeps_sums_and_products(self):
        for field in LEVELS[1:3]:
            some = some_elements(field.base, 9)
            for a in some:
                for b in some:
                    self.assertEqual(field.lift(field.base.add(a, b)),
                                     field.add(field.lift(a), field.lift(b)))
                    self.assertEqual(field.lift(field.base.multiply(a, b)),
                                     field.multiply(field.lift(a), field.lift(b)))

    def test_lowered_of_others(self):
        for field in LEVELS[1:]:
            t = field.variable()
            for a in (t, field.inverse(t), field.divide(t, field.add(t, field.one())),
                      field.add(t, field.one())):
                self.assertIsNone(self.pure(field.lowered, a))
        self.assertEqual(QX.lowered(QX.zero()), ZERO)
        self.assertEqual(QXT.lowered(QXT.lift(X)), X)
        self.assertEqual(QXT.lowered(QXT.zero()), QX.zero())

    def test_rationals_both_ways(self):
        for field in LEVELS:
            for number in (ZERO, ONE, (-1, 1), (2, 3), (-10 ** 40, 7)):
                a = self.pure(field.rational, number)
                self.assert_true(field.is_element(a))
                self.assertEqual(self.pure(field.as_rational, a), number)
            self.assertEqual(field.rational(ZERO), field.zero())
            self.assertEqual(field.rational(ONE), field.one())
            for one_, two in ((((1, 2)), (1, 3)), ((-5, 2), (5, 2))):
                self.assertEqual(field.add(field.rational(one_), field.rational(two)),
                                 field.rational(Q.add(one_, two)))

    def test_the_known_forms_of_rationals(self):
        self.assertEqual(Q.rational((2, 3)), (2, 3))
        self.assertEqual(QX.rational((2, 3)), (((2, 3),), (ONE,)))
        self.assertEqual(QX.rational(ZERO), ((), (ONE,)))
        self.assertEqual(QXT.rational((2, 3)), (((((2, 3),), (ONE,)),), (((ONE,), (ONE,)),)))

    def test_no_rationals(self):
        for field in LEVELS[1:]:
            t = field.variable()
            for a in (t, field.inverse(t), field.add(t, field.one())):
                self.assertIsNone(self.pure(field.as_rational, a))
        self.assertIsNone(QXT.as_rational(QXT.lift(X)))


class Recognized(Fields):
    def test_elements(self):
        for field, some in self.each(14, 14, 12):
            for a in some:
                self.assert_true(self.pure(field.is_element, a))

    def test_elements_of_other_levels(self):
        for field in LEVELS[:4]:
            for other in LEVELS[:4]:
                for a in some_elements(other, 7):
                    expected = field.level() == other.level()
                    self.assertIs(self.pure(field.is_element, a), expected)

    def test_the_levels_of_zero(self):
        for level, field in enumerate(LEVELS):
            for other in range(6):
                self.assertIs(field.is_element(zero(other)), level == other)

    def test_every_other_value(self):
        for field in LEVELS:
            for value in ODD_VALUES + (X, (X, X), ((ONE,), ONE), ((ONE,), (ONE,), (ONE,))):
                self.assertIs(self.pure(field.is_element, value), is_normal(field.level(), value))
            for outer in (tuple, list):
                for depth in (1, 2, 3, 59, 60):
                    self.assert_false(field.is_element(nested(depth, outer)))

    def test_lists(self):
        for field in LEVELS[:4]:
            for a in some_elements(field, 8):
                self.assert_false(field.is_element(list(a)))
                if field.level() > 0:
                    self.assert_false(field.is_element((list(a[0]), a[1])))
                    self.assert_false(field.is_element((a[0], list(a[1]))))
        self.assert_false(QX.is_element((([0, 1], ONE), (ONE,))))

    def test_common_divisors(self):
        for field in LEVELS[1:4]:
            base = field.base
            c = (base.rational((2, 1)), base.one())
            for a in some_elements(field, 8):
                self.assert_false(field.is_element((pmul(base, a[0], c), pmul(base, a[1], c))))

    def test_denominators_that_are_not_monic(self):
        for field in LEVELS[1:4]:
            base = field.base
            for k in ((2, 1), (-1, 1), (1, 2)):
                k = base.rational(k)
                for a in some_elements(field, 8):
                    value = (pscale(base, a[0], k), pscale(base, a[1], k))
                    self.assert_false(field.is_element(value))
        x = QX.variable()
        self.assert_false(QXT.is_element(((QX.one(),), (QX.one(), x))))

    def test_denominators_that_are_zero(self):
        for field in LEVELS[1:]:
            for num in ((), (field.base.one(),), (field.base.zero(), field.base.one())):
                self.assert_false(field.is_element((num, ())))
                self.assert_false(field.is_element((num, (field.base.zero(),))))

    def test_zero_has_one_form(self):
        for field in LEVELS[1:]:
            base = field.base
            self.assert_true(field.is_element(((), (base.one(),))))
            self.assert_false(field.is_element(((), (base.zero(), base.one()))))
            self.assert_false(field.is_element(((base.zero(),), (base.one(),))))
            self.assert_false(field.is_element(((), (base.rational((2, 1)),))))

    def test_zeros_at_the_end(self):
        for field in LEVELS[1:4]:
            base = field.base
            for a in some_elements(field, 8):
                self.assert_false(field.is_element((a[0] + (base.zero(),), a[1])))
                self.assert_false(field.is_element((a[0], a[1] + (base.zero(),))))

    def test_booleans_strings_and_none(self):
        for value in ((1, True), (True, 1), (False, 1), (0, True)):
            self.assert_false(Q.is_element(value))
            self.assert_false(QX.is_element(((value,), (ONE,))))
            self.assert_false(QX.is_element(((ONE,), (value,))))
            self.assert_false(QX.is_element(((), (value,))))
        for value in ("1", None, 1, True, ""):
            self.assert_false(QX.is_element(((value,), (ONE,))))
            self.assert_false(QX.is_element(((ONE,), (value, ONE))))
            self.assert_false(QX.is_element((value, (ONE,))))
            self.assert_false(QXT.is_element((((value,), (ONE,)), (QX.one(),))))

    def test_numbers_that_are_not_in_lowest_terms(self):
        for value in ((2, 2), (0, 2), (1, -1), (1, 0), (-2, 4)):
            self.assert_false(Q.is_element(value))
            self.assert_false(QX.is_element(((value, ONE), (ONE,))))
            self.assert_false(QX.is_element(((ONE,), (value, ONE))))


class HighLevels(Fields):
    def towers(self):
        """Returns, for each level from 3 to 5, some elements with all variables."""
        for field in LEVELS[3:]:
            with self.subTest(level=field.level()):
                yield field, self.mixed(field)

    def mixed(self, field):
        if field.level() == 0:
            return [(2, 3), (-1, 1)]
        a, b = [field.lift(e) for e in self.mixed(field.base)]
        t = field.variable()
        return [field.add(field.multiply(a, t), b), field.divide(a, field.add(t, b))]

    def test_laws(self):
        for field, (a, b) in self.towers():
            self.assert_true(field.is_element(a))
            self.assert_true(field.is_element(b))
            total, product = self.pure(field.add, a, b), self.pure(field.multiply, a, b)
            self.assert_true(field.is_element(total))
            self.assert_true(field.is_element(product))
            self.assertEqual(field.subtract(total, a), b)
            self.assertEqual(field.divide(product, a), b)
            self.assertEqual(field.multiply(total, field.variable()), field.add(
                field.multiply(a, field.variable()), field.multiply(b, field.variable())))
            self.assertEqual(field.power(b, -2), field.inverse(field.multiply(b, b)))
            self.assertEqual(field.multiply(field.inverse(total), total), field.one())

    def test_up_and_down(self):
        x = X
        for field in LEVELS[2:]:
            x = field.lift(x)
        self.assertEqual(LEVELS[5].level(), 5)
        self.assert_true(LEVELS[5].is_element(x))
        self.assertIsNone(LEVELS[5].as_rational(x))
        one_more = LEVELS[5].add(x, LEVELS[5].one())
        quotient = LEVELS[5].divide(LEVELS[5].subtract(LEVELS[5].multiply(x, x), LEVELS[5].one()),
                                    one_more)
        for field in reversed(LEVELS[2:]):
            quotient = field.lowered(quotient)
        self.assertEqual(quotient, (q(-1, 1), q(1)))

    def test_the_variables_are_independent(self):
        field = LEVELS[5]
        variables = []
        for level in range(1, 6):
            t = LEVELS[level].variable()
            for higher in LEVELS[level + 1:]:
                t = higher.lift(t)
            variables.append(t)
        total = field.zero()
        for t in variables:
            total = field.add(total, field.inverse(t))
        for t in variables:
            total = field.subtract(total, field.inverse(t))
        self.assertEqual(total, field.zero())
        product = field.one()
        for t in variables:
            product = field.multiply(product, t)
        for t in reversed(variables[1:]):
            product = field.divide(product, t)
        self.assertEqual(product, variables[0])


class SameResults(Fields):
    def test_two_objects_of_one_field_agree(self):
        other = RationalFunctions(RationalFunctions(Rationals()))
        some = some_elements(QXT, 8)
        for a in some:
            for b in some:
                self.assertEqual(QXT.add(a, b), other.add(a, b))
                self.assertEqual(QXT.multiply(a, b), other.multiply(a, b))

    def test_objects_keep_nothing_that_changes(self):
        field = RationalFunctions(Rationals())
        before = dict(vars(field))
        for a in some_elements(field, 12):
            field.add(a, field.variable())
        self.assertEqual(vars(field), before)
        self.assertEqual(vars(Rationals()), {})


if __name__ == "__main__":
    unittest.main()
