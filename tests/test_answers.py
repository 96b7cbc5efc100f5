"""Chapter 8: answers and their derivatives."""

import random
import unittest
from fractions import Fraction

from integraph.answers import (
    add_answers, derivative, is_answer, log_derivative, plain, power_sums, raise_answer,
    rational_log, root_sum)
from integraph.errors import ZeroDivisor
from integraph.polynomial import pmul, pvalue
from tests.algebra import (
    EXP, LEVELS, LOG, TOWERS, X, chance_rational, el, pol, q, rat, small_element, tower,
    with_roots)
from tests.helpers import ODD_VALUES, PureCase, nested

Q = LEVELS[0]
ZERO, ONE = (0, 1), (1, 1)


class IsAnswer(PureCase):
    def check(self, t, n, value, wanted=True):
        self.assertIs(self.pure(is_answer, t, n, value), wanted, value)

    def test_answers(self):
        for t in TOWERS:
            for n in range(t.height() + 1):
                zero, one = t.field(n).zero(), t.field(n).one()
                self.check(t, n, (zero, ()))
                self.check(t, n, (one, ((q(-3, 1), (one,)),)))
                self.check(t, n, (one, ((q(-3, 1), (one,)), (q(2, 1), (one,)))))
                self.check(t, n, (zero, ((q(-2, 0, 1), (one, one)), (q(-3, 1), (one,)))))
                self.check(t, n, (zero, ((q(-2, 0, 1), (one,)),)))
                if n > 0:
                    e = el(n, f"t{n}/(x+2)")
                    self.check(t, n, (e, ((q(1, 0, 1), (e, zero[:0] + one)),)))
        self.check(X, 1, (el(1, "0"), ((q("1/4", 0, 1), pol(1, "x", "2")),)))
        self.check(X, 1, (el(1, "0"), ((q(1, 0, 0, 1), pol(1, "x", "0", "1/x")),)))

    def test_what_is_no_pair(self):
        for t, n in ((X, 0), (X, 1), (LOG, 2)):
            zero, one = t.field(n).zero(), t.field(n).one()
            for value in ODD_VALUES + (nested(60, tuple), nested(60, list), 1.5, "answer"):
                self.check(t, n, value, False)
                self.check(t, n, (value, value), False)
                if n > 0:
                    self.check(t, n, (value, ()), False)
                if value != ():
                    self.check(t, n, (zero, value), False)
                self.check(t, n, (zero, (value,)), False)
                self.check(t, n, (zero, ((q(-3, 1), value),)), False)
                self.check(t, n, (zero, ((value, (one,)),)), False)
                if value != one:
                    self.check(t, n, (zero, ((q(-3, 1), (value,)),)), n == 0 and value == (1, 2))
            self.check(t, n, (zero,), False)
            self.check(t, n, (zero, (), ()), False)
            self.check(t, n, [zero, ()], False)
            self.check(t, n, (zero, []), False)
            self.check(t, n, (zero, ((q(-3, 1), (one,), ()),)), False)
            self.check(t, n, (zero, ([q(-3, 1), (one,)],)), False)
            self.check(t, n, (zero, ((list(q(-3, 1)), (one,)),)), False)
            self.check(t, n, (zero, ((q(-3, 1), [one]),)), False)
            self.check(t, n, (zero, (q(-3, 1), (one,))), False)

    def check_pair(self, r, *texts, n=1, wanted=False):
        self.check(tower("log x"), n, (LEVELS[n].zero(), ((r, pol(n, *texts)),)), wanted)

    def test_what_r_must_be(self):
        self.check_pair(q(-3, 1), "x", wanted=True)
        self.check_pair(q(-3, 2), "x")
        self.check_pair(q(3, -1), "x")
        self.check_pair((), "x")
        self.check_pair(q(1), "x")
        self.check_pair(q(0, 1), "x")
        self.check_pair(q(0, -1, 1), "x")
        self.check_pair(q(1, 2, 1), "x")
        self.check_pair(q(4, 0, -4, 0, 1), "x")
        self.check_pair(q(-2, 0, 1), "x", wanted=True)
        self.check_pair((rat(-3), ONE, ZERO), "x")
        self.check_pair(((-3, 1), (True, 1)), "x")
        self.check_pair(((-6, 2), (1, 1)), "x")
        self.check_pair(pol(1, "-3", "1"), "x")

    def test_what_s_must_be(self):
        self.check_pair(q(-2, 0, 1))
        self.check_pair(q(-2, 0, 1), "x", "0")
        self.check_pair(q(-2, 0, 1), "0")
        self.check_pair(q(-2, 0, 1), "0", "1", wanted=True)
        self.check_pair(q(-2, 0, 1), "x", "0", "1")
        self.check_pair(q(-2, 1), "x", "1")
        self.check_pair(q(-2, 1), "1/x", wanted=True)
        self.check_pair(q(-2, 1), "t2", n=2, wanted=True)
        self.check(LOG, 1, (el(1, "0"), ((q(-2, 1), pol(2, "t2")),)), False)
        self.check(LOG, 2, (el(2, "0"), ((q(-2, 1), pol(1, "x")),)), False)
        self.check(LOG, 2, (el(1, "0"), ()), False)
        self.check(LOG, 1, (el(2, "t2"), ()), False)

    def test_s_and_r_have_no_common_divisor(self):
        self.check_pair(with_roots(1, 2), "-1", "1")
        self.check_pair(with_roots(1, 2), "-x", "x")
        self.check_pair(with_roots(1, 2), "-x", "1", wanted=True)
        self.check_pair(with_roots(1, 2), "-3", "1", wanted=True)
        self.check_pair(pmul(Q, q(-2, 0, 1), q(-1, 1)), "-2", "0", "1")
        self.check_pair(pmul(Q, q(-2, 0, 1), q(-1, 1)), "-3", "0", "1", wanted=True)
        self.check_pair(with_roots(1, 2, 3), "x", "-x-1", "1", n=2)
        self.check_pair(with_roots(1, 2), "-2*t2", "t2", n=2)

    def test_level_0(self):
        self.check(X, 0, (rat(5), ()))
        self.check(X, 0, (rat(5), ((q(-1, 1), q(7)),)))
        self.check(X, 0, (rat(5), ((q(-1, 1), q(0)),)), False)
        self.check(X, 0, (el(1, "5"), ()), False)
        self.check(X, 1, (rat(5), ()), False)
        self.check(X, 0, (rat(5), ((with_roots(1, 2), q(-2, 1)),)), False)


class PowerSums(PureCase):
    def test_the_example(self):
        self.assertEqual(self.pure(power_sums, ((-2, 1), (0, 1), (1, 1)), 4),
                         ((2, 1), (0, 1), (4, 1), (0, 1)))

    def test_counts(self):
        r = with_roots(1, -2, "1/3")
        for count in range(9):
            found = self.pure(power_sums, r, count)
            self.assertEqual(len(found), count)
            self.assertEqual(found, power_sums(r, 12)[:count])
        self.assertEqual(power_sums(r, 0), ())
        self.assertEqual(power_sums(r, 1), ((3, 1),))

    def test_known_roots(self):
        chance = random.Random(1)
        for _ in range(60):
            roots = [Fraction(chance.randint(-4, 4), chance.randint(1, 3))
                     for _ in range(chance.randint(1, 5))]
            found = power_sums(with_roots(*roots), 11)
            self.assertEqual(found, tuple(rat(sum(x ** k for x in roots)) for k in range(11)))

    def test_equal_roots_and_zero(self):
        self.assertEqual(power_sums(with_roots(2, 2, 2), 4), q(3, 6, 12, 24))
        self.assertEqual(power_sums(with_roots(0, 0), 4), q(2, 0, 0, 0))
        self.assertEqual(power_sums(with_roots(0, 1, 1), 3), q(3, 2, 2))

    def test_degree_1_and_roots_that_are_no_rationals(self):
        self.assertEqual(power_sums(q("-5/2", 1), 4), q(1, "5/2", "25/4", "125/8"))
        self.assertEqual(power_sums(q(-2, 0, 0, 1), 8), q(3, 0, 0, 6, 0, 0, 12, 0))
        self.assertEqual(power_sums(q(-1, -1, 1), 8), q(2, 1, 3, 4, 7, 11, 18, 29))


class RootSum(PureCase):
    def test_zero(self):
        for n in range(4):
            self.assertEqual(self.pure(root_sum, LEVELS[n], q(-2, 0, 1), ()), LEVELS[n].zero())

    def test_over_known_roots(self):
        for n in (0, 1, 2):
            chance = random.Random(n)
            field = LEVELS[n]
            for _ in range(15):
                roots = [Fraction(chance.randint(-3, 3), chance.randint(1, 2))
                         for _ in range(chance.randint(1, 4))]
                items = [small_element(chance, n) for _ in range(chance.randint(0, 5))]
                while items and field.is_zero(items[-1]):
                    items.pop()
                wanted = field.zero()
                for root in roots:
                    wanted = field.add(wanted, pvalue(field, items, field.rational(rat(root))))
                self.assertEqual(
                    self.pure(root_sum, field, with_roots(*roots), tuple(items)), wanted)

    def test_roots_that_are_no_rationals(self):
        self.assertEqual(root_sum(Q, q(-2, 0, 1), q(1, 5, 3)), (14, 1))
        self.assertEqual(root_sum(LEVELS[1], q(1, 0, 1), pol(1, "x", "7", "1/x")),
                         el(1, "2*x-2/x"))


def pairs(t, n, chance):
    """Returns pairs (r, s) over rational roots, with the answer's derivative by its rule."""
    field = t.field(n)
    while True:
        roots = chance.sample((-3, -2, -1, 1, 2, Fraction(1, 2)), chance.randint(1, 3))
        s = [small_element(chance, n) for _ in range(chance.randint(1, len(roots)))]
        while s and field.is_zero(s[-1]):
            s.pop()
        values = [pvalue(field, s, field.rational(rat(c))) for c in roots]
        if s and not any(field.is_zero(e) for e in values):
            break
    total = field.zero()
    for c, e in zip(roots, values):
        change = field.divide(t.derive(n, e), e)
        total = field.add(total, field.multiply(change, field.rational(rat(c))))
    return (with_roots(*roots), tuple(s)), total


class Derivatives(PureCase):
    def test_the_examples(self):
        pair = (q("1/4", 0, 1), pol(1, "x", "2"))
        self.assertEqual(self.pure(derivative, X, 1, (el(1, "0"), (pair,))), el(1, "1/(x^2+1)"))
        self.assertEqual(self.pure(log_derivative, X, 1, *pair), el(1, "1/(x^2+1)"))
        self.assertEqual(log_derivative(X, 1, q(-3, 1), pol(1, "x")), el(1, "3/x"))

    def test_rational_roots(self):
        for t in TOWERS[:8]:
            for n in range(1, t.height() + 1):
                chance = random.Random(n)
                for _ in range(6 if n < 3 else 2):
                    (r, s), wanted = pairs(t, n, chance)
                    self.assertTrue(is_answer(t, n, (t.field(n).zero(), ((r, s),))))
                    self.assertEqual(self.pure(log_derivative, t, n, r, s), wanted)

    def test_roots_that_are_no_rationals(self):
        # sqrt(2) log((x + sqrt(2)) / (x - sqrt(2))) has the derivative -4 / (x^2 - 2).
        self.assertEqual(log_derivative(X, 1, q(-2, 0, 1), pol(1, "x", "1")),
                         el(1, "0-4/(x^2-2)"))
        self.assertEqual(log_derivative(LOG, 2, q(-2, 0, 1), pol(2, "t2", "1")),
                         el(2, "0-4/(x*(t2^2-2))"))
        self.assertEqual(log_derivative(EXP, 2, q(1, 0, 1), pol(2, "t2", "1")),
                         el(2, "2*t2/(t2^2+1)"))
        # The three cube roots of 2: the sum of c / (x - c) is 3 * 2 / (x^3 - 2).
        self.assertEqual(log_derivative(X, 1, q(-2, 0, 0, 1), pol(1, "x", "-1")),
                         el(1, "6/(x^3-2)"))

    def test_constants_have_no_derivative(self):
        for t in TOWERS:
            for n in range(t.height() + 1):
                zero, one = t.field(n).zero(), t.field(n).one()
                answer = (one, ((q(-3, 1), (one,)), (q(-2, 0, 1), (one, one))))
                self.assertEqual(self.pure(derivative, t, n, answer), zero)
        self.assertEqual(log_derivative(X, 0, q(-2, 0, 1), q(3, 1)), ZERO)

    def test_parts_and_pairs_are_added(self):
        for t in TOWERS[:7]:
            n = t.height()
            chance = random.Random(5)
            for _ in range(4):
                one, first = pairs(t, n, chance)
                two, second = pairs(t, n, chance)
                part = small_element(chance, n)
                wanted = t.field(n).add(t.derive(n, part), t.field(n).add(first, second))
                self.assertEqual(self.pure(derivative, t, n, (part, (one, two))), wanted)
                self.assertEqual(derivative(t, n, (part, ())), t.derive(n, part))

    def test_sums_of_answers(self):
        for t in TOWERS[:7]:
            n = t.height()
            field = t.field(n)
            chance = random.Random(6)
            answers = [(small_element(chance, n), tuple(pairs(t, n, chance)[0] for _ in range(k)))
                       for k in (0, 1, 2)]
            for a in answers:
                for b in answers:
                    both = self.pure(add_answers, t, n, a, b)
                    self.assertEqual(both, (field.add(a[0], b[0]), a[1] + b[1]))
                    self.assertEqual(derivative(t, n, both),
                                     field.add(derivative(t, n, a), derivative(t, n, b)))

    def test_raised_answers(self):
        t = tower("log x", "exp x", "log t3+1")
        chance = random.Random(7)
        for low in range(1, 4):
            pair, _ = pairs(t, low, chance)
            answer = (small_element(chance, low), (pair, (q(-2, 0, 1), (t.variable(low),))))
            for high in range(low, 5):
                raised = self.pure(raise_answer, t, answer, low, high)
                self.assert_true(is_answer(t, high, raised))
                self.assertEqual(raised[0], t.raise_to(answer[0], low, high))
                self.assertEqual([r for r, _ in raised[1]], [r for r, _ in answer[1]])
                self.assertEqual(derivative(t, high, raised),
                                 t.raise_to(derivative(t, low, answer), low, high))
        self.assertEqual(raise_answer(t, (rat(3), ((q(-1, 1), q(5)),)), 0, 2),
                         (el(2, "3"), ((q(-1, 1), pol(2, "5")),)))

    def test_plain(self):
        for t in TOWERS:
            n = t.height()
            e = t.variable(n)
            self.assertEqual(self.pure(plain, t, n, e), (e, ()))
            self.assertEqual(derivative(t, n, plain(t, n, e)), t.derive(n, e))

    def test_rational_logarithms(self):
        chance = random.Random(8)
        for t in TOWERS:
            n = t.height()
            field = t.field(n)
            for e in (t.variable(n), field.one(), el(n, f"1/(t{n}+x)")):
                for c in (rat(1), rat(-2), chance_rational(chance), rat(Fraction(7, 3))):
                    if c == ZERO:
                        continue
                    answer = self.pure(rational_log, t, n, c, e)
                    self.assertEqual(answer, (field.zero(), (((Q.negative(c), ONE), (e,)),)))
                    self.assert_true(is_answer(t, n, answer))
                    wanted = field.multiply(field.divide(t.derive(n, e), e), field.rational(c))
                    self.assertEqual(derivative(t, n, answer), wanted)
        self.assertEqual(rational_log(X, 0, rat(2), rat(5)), (ZERO, ((q(-2, 1), q(5)),)))

    def test_logarithms_of_zero(self):
        for t in TOWERS:
            for n in range(t.height() + 1):
                zero, one = t.field(n).zero(), t.field(n).one()
                for c, e in ((ZERO, one), (ONE, zero), (ZERO, zero)):
                    self.pure_raises(ZeroDivisor, rational_log, t, n, c, e)

    def test_unlike_answers_with_one_derivative(self):
        one = (el(1, "0"), ((q(-1, 1), pol(1, "x^2")),))
        two = (el(1, "0"), ((q(-2, 1), pol(1, "3*x")),))
        self.assertEqual(derivative(X, 1, one), derivative(X, 1, two))


if __name__ == "__main__":
    unittest.main()
