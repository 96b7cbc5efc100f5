"""Chapter 4: expressions, points 4.1, 4.2, 4.7, 4.8 and 4.9."""

import unittest
from fractions import Fraction

from integraph.errors import Refused
from integraph.expressions import (
    count, depth, differentiate, evaluate, is_expression, substitute, weight)
from tests import trees
from tests.helpers import ODD_VALUES, PureCase, nested
from tests.trees import BINARY, UNARY, X, chain, chance_trees, num

HALF = num(1, 2)


def sum_of(how_many):
    """Returns a balanced sum of so many terms x."""
    if how_many == 1:
        return X
    return ("add", sum_of(how_many // 2), sum_of(how_many - how_many // 2))


class Recognized(PureCase):
    def yes(self, value):
        self.assert_true(self.pure(is_expression, value))

    def no(self, value):
        self.assert_false(self.pure(is_expression, value))

    def test_every_kind_of_node(self):
        for e in (X, num(0), num(-3, 7), ("num", 10 ** 150, 1), ("neg", X), ("exp", X), ("log", X),
                  ("add", X, HALF), ("sub", X, HALF), ("mul", X, HALF), ("div", X, num(0))):
            self.yes(e)
        for k in (-30, -29, -1, 0, 1, 30):
            self.yes(("pow", X, k))

    def test_small_ones(self):
        for e in chance_trees(1, 400):
            self.assertIs(self.pure(is_expression, e), trees.is_small(e))

    def test_wrong_lengths(self):
        for e in ((), ("num",), ("num", 1), ("num", 1, 1, 1), ("x", 1), ("x", X), ("neg",), ("exp",),
                  ("neg", X, X), ("exp", X, X), ("log",), ("log", X, 1), ("add",), ("add", X),
                  ("add", X, X, X), ("div", X), ("mul", X, X, 2), ("pow", X), ("pow",),
                  ("pow", X, 2, 2), ("pow", X, X, 2)):
            self.no(e)

    def test_unknown_words(self):
        for word in ("", "X", "sin", "xx", "plus", "Add", "add ", "sqrt", 0, None, True, (), X, []):
            self.no((word,))
            self.no((word, X))
            self.no((word, X, X))
            self.no((word, 1, 1))
            self.no(("neg", (word, X)))

    def test_numbers_that_are_no_rationals(self):
        for n, d in ((2, 4), (0, 2), (1, 0), (1, -1), (-2, 2), (0, 0), (True, 1), (1, True),
                     (False, 1), (0, True), (True, True), ("1", 1), (1, "1"), (None, 1), (1, None),
                     ((1, 1), 1), (1, (1, 1)), ([1], 1)):
            self.no(("num", n, d))
            self.no(("add", X, ("num", n, d)))

    def test_powers(self):
        for k in (31, -31, 1000, -10 ** 30, True, False, None, "2", (2,), (2, 1), [2], X, num(2)):
            self.no(("pow", X, k))
            self.no(("exp", ("pow", X, k)))

    def test_lists(self):
        for e in chance_trees(2, 60, 3):
            self.no(list(e))
            self.no(("neg", list(e)))
            self.no(("add", X, list(e)))
            self.no(["neg", e])

    def test_operands_that_are_none(self):
        for value in ODD_VALUES + (("y",), "x", 7):
            self.no(value)
            self.no(("neg", value))
            self.no(("add", value, X))
            self.no(("add", X, value))
            self.no(("pow", value, 2))
            self.no(("exp", ("log", value)))

    def test_nested_values(self):
        for outer in (tuple, list):
            for levels in (1, 2, 40, 60):
                self.no(nested(levels, outer))
        self.no(chain("neg", 60))
        self.no(chain("add", 60))

    def test_the_greatest_count(self):
        # 150 terms x have 149 sums, so 299 nodes, and a weight of 299.
        e = sum_of(150)
        self.assertEqual((count(e), depth(e), weight(e)), (299, 9, 299))
        self.yes(e)
        self.assertEqual(count(("neg", e)), 300)
        self.yes(("neg", e))
        self.assertEqual(count(("neg", ("neg", e))), 301)
        self.no(("neg", ("neg", e)))

    def test_the_greatest_depth(self):
        for word in BINARY + ("neg", "pow"):
            self.assertEqual(depth(chain(word, 40)), 40)
            self.yes(chain(word, 40))
            self.no(chain(word, 41))
        for word in UNARY:
            self.assert_true(is_expression(("add", X, chain(word, 39))))
            self.no(("add", X, chain(word, 40)))

    def test_the_greatest_weight(self):
        self.assertEqual(weight(("num", 10 ** 398, 1)), 400)
        self.assertEqual(weight(("num", 10 ** 199 + 1, 10 ** 199)), 400)
        self.yes(("num", 10 ** 398, 1))
        self.no(("num", 10 ** 399, 1))
        self.yes(("num", -10 ** 398, 1))
        self.no(("num", -10 ** 399, 1))
        self.yes(("num", 10 ** 199 + 1, 10 ** 199))
        self.no(("num", 10 ** 199 + 1, 10 ** 200))
        self.yes(("neg", ("num", 10 ** 398, 1)))
        self.yes(("add", X, ("num", 10 ** 396, 1)))
        self.no(("add", X, ("num", 10 ** 397, 1)))
        self.yes(("log", ("num", 10 ** 396, 1)))
        self.no(("log", ("num", 10 ** 397, 1)))
        # 1 + 19 times 21, which is 400, and with one node more.
        e = ("pow", ("num", 10 ** 19, 1), 19)
        self.assertEqual(weight(e), 400)
        self.yes(e)
        self.no(("pow", e, 1))
        self.yes(("pow", e, 0))
        self.no(("pow", ("num", 10 ** 19, 1), -20))
        self.no(("num", 10 ** 20000, 1))

    def test_deep_trees(self):
        for word in BINARY + UNARY + ("pow",):
            self.no(chain(word, 200))

    def test_trees_that_share_operands(self):
        e = X
        for _ in range(50):
            e = ("mul", e, e)
        self.assert_false(is_expression(e))


class Measures(PureCase):
    def test_all(self):
        for e in chance_trees(3, 400):
            self.assertEqual(self.pure(count, e), trees.count(e))
            self.assertEqual(self.pure(depth, e), trees.depth(e))
            self.assertEqual(self.pure(weight, e), trees.weight(e))

    def test_known_ones(self):
        for e, expected in (
                (X, (1, 1, 1)), (num(0), (1, 1, 2)), (num(-12, 5), (1, 1, 3)),
                (("neg", num(-12, 5)), (2, 2, 3)), (("exp", X), (2, 2, 3)), (("log", X), (2, 2, 3)),
                (("add", X, num(10)), (3, 2, 5)), (("div", X, ("neg", X)), (4, 3, 3)),
                (("pow", X, 0), (2, 2, 1)), (("pow", X, -30), (2, 2, 31)),
                (("pow", ("add", X, X), 2), (4, 3, 7))):
            self.assertEqual((count(e), depth(e), weight(e)), expected)

    def test_trees_of_a_depth_of_200(self):
        for word in BINARY:
            e = chain(word, 200)
            self.assertEqual((count(e), depth(e), weight(e)), (399, 200, 399))
        self.assertEqual((count(chain("neg", 200)), depth(chain("neg", 200))), (200, 200))
        self.assertEqual(weight(chain("neg", 200)), 1)
        self.assertEqual(weight(chain("exp", 200)), 399)
        self.assertEqual(weight(chain("pow", 200)), 200)
        e = chain("log", 199)
        self.assertEqual(depth(("sub", X, e)), 200)

    def test_great_weights(self):
        e = X
        for _ in range(30):
            e = ("pow", e, -30)
        expected = 1
        for _ in range(30):
            expected = 1 + 30 * expected
        self.assertEqual(weight(e), expected)
        self.assertEqual(weight(("num", 10 ** 5000, 3)), 5002)


def slow_derivative(e):
    """By point 4.7."""
    word = e[0]
    u = e[1] if len(e) > 1 else None
    v = e[2] if len(e) > 2 else None
    if word == "num":
        return ("num", 0, 1)
    if word == "x":
        return ("num", 1, 1)
    big_u = slow_derivative(u)
    if word in ("add", "sub"):
        return (word, big_u, slow_derivative(v))
    if word == "neg":
        return (word, big_u)
    if word == "mul":
        return ("add", ("mul", big_u, v), ("mul", u, slow_derivative(v)))
    if word == "div":
        return ("div", ("sub", ("mul", big_u, v), ("mul", u, slow_derivative(v))), ("pow", v, 2))
    if word == "pow":
        if v == 0:
            return ("num", 0, 1)
        return ("mul", ("mul", ("num", v, 1), ("pow", u, v - 1)), big_u)
    return ("mul", e, big_u) if word == "exp" else ("div", big_u, u)


class Derivatives(PureCase):
    def test_node_by_node(self):
        zero, one = num(0), num(1)
        u, v = ("mul", X, HALF), ("exp", X)
        big_u = ("add", ("mul", one, HALF), ("mul", X, zero))
        big_v = ("mul", v, one)
        for e, expected in (
                (num(5), zero), (num(-1, 2), zero), (X, one),
                (("add", u, v), ("add", big_u, big_v)), (("sub", u, v), ("sub", big_u, big_v)),
                (("neg", u), ("neg", big_u)), (u, big_u), (v, big_v),
                (("mul", u, v), ("add", ("mul", big_u, v), ("mul", u, big_v))),
                (("div", u, v),
                 ("div", ("sub", ("mul", big_u, v), ("mul", u, big_v)), ("pow", v, 2))),
                (("exp", u), ("mul", ("exp", u), big_u)), (("log", u), ("div", big_u, u)),
                (("pow", u, 3), ("mul", ("mul", num(3), ("pow", u, 2)), big_u)),
                (("pow", u, 1), ("mul", ("mul", num(1), ("pow", u, 0)), big_u)),
                (("pow", u, 0), zero),
                (("pow", u, -1), ("mul", ("mul", num(-1), ("pow", u, -2)), big_u)),
                (("pow", u, -30), ("mul", ("mul", num(-30), ("pow", u, -31)), big_u)),
                (("pow", u, 30), ("mul", ("mul", num(30), ("pow", u, 29)), big_u))):
            self.assertEqual(self.pure(differentiate, e), expected)

    def test_all(self):
        for e in chance_trees(5, 300):
            self.assertEqual(self.pure(differentiate, e), slow_derivative(e))

    def test_the_result_need_not_be_small(self):
        e = chain("mul", 40)
        self.assert_true(is_expression(e))
        self.assert_false(is_expression(differentiate(e)))

    def test_trees_of_a_depth_of_200(self):
        for word in BINARY + UNARY + ("pow",):
            e = chain(word, 200)
            self.assertEqual(differentiate(e), slow_derivative(e))

    def test_values_of_derivatives(self):
        e = ("div", ("pow", X, 3), ("sub", X, num(1)))
        # (3 x^2 (x - 1) - x^3) / (x - 1)^2 at 3
        self.assertEqual(evaluate(differentiate(e), (3, 1)), (27, 4))
        self.assertEqual(evaluate(differentiate(("pow", X, -30)), (1, 1)), (-30, 1))
        self.assertEqual(evaluate(differentiate(("exp", X)), (0, 1)), (1, 1))
        self.assertEqual(evaluate(differentiate(("log", X)), (1, 1)), (1, 1))


class NoValue(Exception):
    pass


def slow_value(e, at):
    """By point 4.8: the operands from the left to the right, then the node."""
    values = [slow_value(a, at) for a in trees.operands(e)]
    word = e[0]
    if word == "num":
        return Fraction(e[1], e[2])
    if word == "x":
        return at
    if word in ("add", "sub", "mul"):
        a, b = values
        return a + b if word == "add" else a - b if word == "sub" else a * b
    if word == "div":
        if values[1] == 0:
            raise NoValue("zero")
        return values[0] / values[1]
    if word == "neg":
        return -values[0]
    if word == "pow":
        if values[0] == 0 and e[2] < 0:
            raise NoValue("zero")
        return values[0] ** e[2]
    if word == "exp":
        if values[0] != 0:
            raise NoValue("constant")
        return Fraction(1)
    if values[0] == 0:
        raise NoValue("zero")
    if values[0] != 1:
        raise NoValue("constant")
    return Fraction(0)


class Values(PureCase):
    def refused(self, e, at, reason):
        error = self.pure_raises(Refused, evaluate, e, at)
        self.assertEqual(error.reason, reason)

    def test_all(self):
        for e in chance_trees(7, 1200, 5):
            for at in (Fraction(0), Fraction(1), Fraction(-2, 3)):
                try:
                    expected = slow_value(e, at).as_integer_ratio()
                except NoValue as fault:
                    self.refused(e, at.as_integer_ratio(), str(fault))
                else:
                    self.assertEqual(self.pure(evaluate, e, at.as_integer_ratio()), expected)

    def test_the_example(self):
        self.assertEqual(evaluate(("exp", ("sub", ("x",), ("num", 2, 1))), (2, 1)), (1, 1))

    def test_node_by_node(self):
        three, two = num(3), num(2)
        for e, expected in (
                (X, (5, 2)), (num(-2, 3), (-2, 3)), (("add", three, two), (5, 1)),
                (("sub", three, two), (1, 1)), (("mul", three, HALF), (3, 2)),
                (("div", three, two), (3, 2)), (("neg", X), (-5, 2)), (("pow", X, 2), (25, 4)),
                (("pow", X, -1), (2, 5)), (("pow", X, 0), (1, 1)), (("exp", num(0)), (1, 1)),
                (("log", num(1)), (0, 1))):
            self.assertEqual(self.pure(evaluate, e, (5, 2)), expected)

    def test_zero(self):
        for e in (("div", num(1), X), ("div", X, X), ("pow", X, -1), ("pow", X, -30), ("log", X),
                  ("log", ("sub", X, num(0))), ("pow", ("mul", X, num(7)), -2)):
            self.refused(e, (0, 1), "zero")
        self.refused(("div", num(1), ("sub", X, HALF)), (1, 2), "zero")

    def test_powers_of_zero(self):
        self.assertEqual(evaluate(("pow", X, 0), (0, 1)), (1, 1))
        self.assertEqual(evaluate(("pow", X, 5), (0, 1)), (0, 1))

    def test_constants(self):
        for e, at in ((("exp", X), (1, 1)), (("exp", X), (-1, 3)), (("log", X), (2, 1)),
                      (("log", X), (-1, 1)), (("log", X), (1, 2))):
            self.refused(e, at, "constant")

    def test_the_first_refusal_counts(self):
        bad_zero, bad_constant = ("div", num(1), num(0)), ("exp", num(1))
        for word in BINARY:
            self.refused((word, bad_zero, bad_constant), (0, 1), "zero")
            self.refused((word, bad_constant, bad_zero), (0, 1), "constant")
        self.refused(("div", bad_constant, num(0)), (0, 1), "constant")
        self.refused(("div", num(0), bad_constant), (0, 1), "constant")
        self.refused(("pow", bad_constant, 0), (0, 1), "constant")
        self.refused(("mul", num(0), bad_constant), (0, 1), "constant")
        self.refused(("add", ("add", X, bad_zero), bad_constant), (0, 1), "zero")
        self.refused(("add", ("add", bad_constant, X), bad_zero), (0, 1), "constant")

    def test_trees_of_a_depth_of_200(self):
        self.assertEqual(evaluate(chain("add", 200), (1, 2)), (100, 1))
        self.assertEqual(evaluate(chain("mul", 200), (2, 1)), (2 ** 200, 1))
        self.assertEqual(evaluate(chain("neg", 200), (7, 1)), (-7, 1))
        self.assertEqual(evaluate(chain("pow", 200), (7, 3)), (7, 3))
        self.assertEqual(evaluate(chain("sub", 200), (1, 1)), (-198, 1))
        self.refused(chain("exp", 200), (0, 1), "constant")
        self.refused(chain("log", 200), (1, 1), "zero")

    def test_great_numbers(self):
        e = ("pow", ("add", X, num(10 ** 90)), 30)
        n, d = evaluate(e, (1, 7))
        self.assertEqual((n, d), ((7 * 10 ** 90 + 1) ** 30, 7 ** 30))


def slow_substitution(e, f):
    if e == X:
        return f
    if e[0] in BINARY:
        return (e[0], slow_substitution(e[1], f), slow_substitution(e[2], f))
    if e[0] == "num":
        return e
    return (e[0], slow_substitution(e[1], f)) + e[2:]


class Substitutions(PureCase):
    def test_all(self):
        some = chance_trees(9, 80, 4)
        for e in some:
            for f in some[::5]:
                self.assertEqual(self.pure(substitute, e, f), slow_substitution(e, f))

    def test_known_ones(self):
        f = ("log", X)
        self.assertEqual(substitute(X, f), f)
        self.assertEqual(substitute(num(1, 2), f), num(1, 2))
        self.assertEqual(substitute(("pow", ("sub", X, num(2)), -3), f),
                         ("pow", ("sub", f, num(2)), -3))
        self.assertEqual(substitute(("mul", X, ("exp", X)), X), ("mul", X, ("exp", X)))
        self.assertEqual(substitute(("neg", X), num(5)), ("neg", num(5)))

    def test_x_in_what_is_put_in_stays(self):
        self.assertEqual(substitute(("add", X, X), ("neg", X)), ("add", ("neg", X), ("neg", X)))

    def test_trees_of_a_depth_of_200(self):
        for word in BINARY + UNARY + ("pow",):
            e = chain(word, 200)
            self.assertEqual(substitute(e, num(3)), slow_substitution(e, num(3)))
            self.assertEqual(depth(substitute(e, e)), 399)


if __name__ == "__main__":
    unittest.main()
