"""Chapter 12: the equation D y + (D w) y = g, and the data that show it has no solution."""

import random
import unittest

from integraph.equation import applied, bounds, cancelling, equation, refutes
from integraph.poles import clear
from tests.algebra import (
    EXP, EXP_EXP, EXP_LOG, LOG, LOG_EXP, TOWERS, X, chance_fit, el, fit, lift,
    normal_polynomials, small_element, tower, unlike_levels)
from tests.helpers import ODD_VALUES, PureCase, nested, some_spoiled


def words(data):
    """Returns the words of the data, from the outside to the inside."""
    found = []
    while isinstance(data, tuple) and isinstance(data[0], str):
        found.append(data[0])
        data = data[-1]
    return found


class EquationCase(PureCase):
    def each_level(self):
        for t, n in unlike_levels():
            with self.subTest(monomials=t.monomials()[:n]):
                yield t, n

    def solved(self, t, n, w, g):
        """Returns what equation returns, looked after by point 12.6."""
        kind, found = self.pure(equation, t, n, w, g)
        if kind == "found":
            self.assertEqual(applied(t, n, w, found), g)
        else:
            self.assertEqual(kind, "refused")
            self.assert_true(self.pure(refutes, t, n, w, g, found))
        return kind, found

    def check(self, t, n, w, g, *wanted):
        """wanted is ("found", text) or ("refused", data)."""
        if wanted[0] == "found":
            wanted = ("found", el(n, wanted[1]))
        self.assertEqual(self.solved(t, n, el(n, w), el(n, g)), wanted)

    def check_no_others(self, t, n, w, g, data, chance):
        """Data of other forms show nothing."""
        for other in some_spoiled(chance, data, 40):
            self.assert_false(refutes(t, n, w, g, other))


class Applied(EquationCase):
    def test_by_its_rule(self):
        chance = random.Random(1)
        for t, n in self.each_level():
            field = t.field(n)
            for _ in range(4):
                w, y = small_element(chance, n), small_element(chance, n)
                wanted = field.add(t.derive(n, y), field.multiply(t.derive(n, w), y))
                self.assertEqual(self.pure(applied, t, n, w, y), wanted)

    def test_known_values(self):
        self.assertEqual(applied(X, 1, el(1, "x^2"), el(1, "x")), el(1, "1+2*x^2"))
        self.assertEqual(applied(EXP, 2, el(2, "x"), el(2, "t2^3")), el(2, "4*t2^3"))
        self.assertEqual(applied(LOG, 2, el(2, "x*t2"), el(2, "x")), el(2, "1+x*(t2+1)"))
        self.assertEqual(applied(X, 1, el(1, "1/x"), el(1, "0")), el(1, "0"))


class Cancelling(EquationCase):
    def check_power(self, t, n, text, wanted):
        found = self.pure(cancelling, t, n, el(n - 1, text))
        self.assertEqual(found, wanted)
        self.assertIs(type(found), type(wanted))

    def test_over_x(self):
        for text, wanted in (("x", -1), ("0-3*x", 3), ("7", 0), ("0", 0), ("5*x+2", -5),
                             ("x/2", None), ("7*x/3", None), ("x^2", None), ("1/x", None),
                             ("x+x^2", None)):
            self.check_power(EXP, 2, text, wanted)
        for text, wanted in (("4*x^2", -4), ("x", None), ("0", 0), ("x^2/4", None),
                             ("9-x^2", 1)):
            self.check_power(tower("exp x^2"), 2, text, wanted)

    def test_over_logarithms(self):
        for text, wanted in (("3*t2-2*x", 2), ("t2/2-2*x", 2), ("t2", 0), ("t2+x/2", None),
                             ("x*t2", None), ("t2^2", None), ("11-5*t2+x", -1), ("1/x", None)):
            self.check_power(LOG_EXP, 3, text, wanted)
        self.check_power(tower("log x", "exp x*t2"), 3, "5*x*t2-t2/3", -5)
        self.check_power(tower("log x", "exp x*t2"), 3, "5*x", None)

    def test_over_exponentials(self):
        for text, wanted in (("0-4*t2", 4), ("7*x/2-4*t2", 4), ("t2/3", None), ("x", 0),
                             ("x*t2", None), ("t2+1/t2", None), ("t2^2", None), ("x/3+t2", -1)):
            self.check_power(EXP_EXP, 3, text, wanted)
        t = tower("log x", "exp x", "exp t3/x")
        for text, wanted in (("6*t3/x+t2/2-x/5", -6), ("t3/x/6", None), ("t3", None)):
            self.check_power(t, 4, text, wanted)


class Bounds(EquationCase):
    def check_bounds(self, t, n, w, g, *wanted):
        w = el(n, w)
        self.assertEqual(fit(t, n, w), w)
        found = self.pure(bounds, t, n, w, el(n, g))
        self.assertEqual(found, wanted)
        self.assertEqual([type(k) for k in found], [int, int])

    def test_over_x(self):
        self.check_bounds(X, 1, "x", "x^2", 2, 0)
        self.check_bounds(X, 1, "x^2", "1", -1, 0)
        self.check_bounds(X, 1, "x^3", "x^2", 0, 0)
        self.check_bounds(X, 1, "x+1/x", "1/x", -1, 0)
        self.check_bounds(X, 1, "x^4/(x^2+1)+1", "x^5", 4, 0)
        self.check_bounds(X, 1, "1/x", "1", 1, 0)
        self.check_bounds(X, 1, "1/x", "x^3/(x+1)", 3, 0)
        self.check_bounds(X, 1, "x/(x^2+1)", "1/x", 0, 0)
        self.check_bounds(X, 1, "1/x", "1/x^5", 0, 0)

    def test_over_a_logarithm(self):
        self.check_bounds(LOG, 2, "x*t2", "t2", 0, 0)
        self.check_bounds(LOG, 2, "x*t2", "1", -1, 0)
        self.check_bounds(LOG, 2, "t2^2", "t2^4", 3, 0)
        self.check_bounds(LOG, 2, "t2^2/x", "t2^4", 2, 0)
        self.check_bounds(LOG, 2, "x", "t2^3", 4, 0)
        self.check_bounds(LOG, 2, "1/t2", "1", 1, 0)
        self.check_bounds(LOG, 2, "x", "1/t2^3", 0, 0)
        self.check_bounds(LOG, 2, "x+x/t2", "t2^2/(t2+1)", 2, 0)

    def test_over_an_exponential_with_a_positive_degree(self):
        self.check_bounds(EXP, 2, "t2", "t2^3", 2, 0)
        self.check_bounds(EXP, 2, "t2^2", "t2^3+t2", 1, 0)
        self.check_bounds(EXP, 2, "t2^2", "1/t2^3", -5, -3)
        self.check_bounds(EXP, 2, "t2+2*x", "t2^3", 2, -2)
        self.check_bounds(EXP, 2, "t2-5*x", "t2^3", 2, 3)
        self.check_bounds(EXP, 2, "t2-2*x", "t2^3", 2, 2)
        self.check_bounds(EXP, 2, "t2+x/2", "t2^3", 2, 3)
        self.check_bounds(EXP, 2, "t2+1/t2", "t2^3", 2, 4)
        self.check_bounds(EXP, 2, "x*t2^3/(t2-1)", "t2", -1, 0)

    def test_over_an_exponential_with_a_degree_below_1(self):
        self.check_bounds(EXP, 2, "x^2", "t2+1/t2", 1, -1)
        self.check_bounds(EXP, 2, "x/2", "t2^2", 2, 2)
        self.check_bounds(EXP, 2, "1/t2", "t2^3+t2", 3, 2)
        self.check_bounds(EXP, 2, "1/t2^2-6*x", "t2^3+t2", 6, 3)
        self.check_bounds(EXP, 2, "1/t2^2+6*x", "t2^3+t2", 3, 3)
        self.check_bounds(EXP, 2, "1/t2^2-2*x", "t2^3+t2", 3, 3)
        self.check_bounds(EXP, 2, "5*x/(t2+1)", "1/t2^4", 0, -5)
        self.check_bounds(EXP, 2, "5*x/(t2+1)", "1/t2^6", 0, -6)
        self.check_bounds(EXP, 2, "5*x/(t2+1)", "t2^2", 2, -5)
        self.check_bounds(EXP, 2, "5*x-5*x/(t2+1)", "1/t2^7", -5, -7)
        self.check_bounds(EXP, 2, "0-5*x+5*x/(t2+1)", "1/t2^2", 5, -2)
        self.check_bounds(EXP, 2, "t2/(t2+1)-1", "t2", 1, 0)
        # The reduced part counts for N, the value at t = 0 for M.
        self.check_bounds(EXP, 2, "3*x/(t2+1)-2*x", "t2", 2, -1)

    def test_with_powers_that_cancel_over_lower_kernels(self):
        self.check_bounds(LOG_EXP, 3, "(t2/2-7*x)/(t3+1)", "t3", 1, 1)
        self.check_bounds(LOG_EXP, 3, "(t2/2+7*x)/(t3+1)", "t3", 1, -7)
        self.check_bounds(EXP_EXP, 3, "x/2-4*t2", "t3", 4, 1)
        self.check_bounds(EXP_EXP, 3, "x/2+4*t2", "t3", 1, -4)

    def test_solutions_are_within(self):
        chance = random.Random(12)
        for t, n in self.each_level():
            for _ in range(6):
                w, y = chance_fit(chance, t, n), small_element(chance, n)
                if n > 1 and t.kind(n) == "exp":
                    power = t.field(n).power(t.variable(n), chance.randint(-3, 2))
                    y = t.field(n).multiply(y, power)
                g = applied(t, n, w, y)
                if t.field(n).is_zero(g):
                    continue
                high, low = self.pure(bounds, t, n, w, g)
                self.assertLessEqual(len(y[0]) - len(y[1]), high)
                if t.kind(n) == "exp":
                    parts = [t.special_split(n, p)[0] for p in y]
                    self.assertGreaterEqual(len(parts[0]) - len(parts[1]), low)
                else:
                    self.assertEqual(low, 0)


class Examples(EquationCase):
    def test_over_x(self):
        zero = el(1, "0")
        self.check(X, 1, "x", "x^2", "found", "x^2-2*x+2")
        self.check(X, 1, "x^2", "1", "refused", ("range", zero))
        self.check(X, 1, "x", "1/x", "refused", ("simple", zero))
        self.check(X, 1, "x", "1/x-1/x^2", "found", "1/x")
        self.check(X, 1, "1/x", "1", "refused", ("range", zero))
        self.check(X, 1, "1/x", "2*x-1", "found", "x^2")
        cleared = clear(X, 1, el(1, "1/x"), el(1, "1"))
        self.assertEqual(cleared[2:], (el(1, "x^2")[0], el(1, "x^2")[0], el(1, "2*x-1"),
                                       el(1, "1")))

    def test_over_an_exponential(self):
        w = el(2, "5*x/(t2+1)")
        y = el(2, "1/t2^5")
        g = applied(EXP, 2, w, y)
        self.assertEqual(bounds(EXP, 2, w, g)[1], -5)
        self.assertEqual(self.solved(EXP, 2, w, g), ("found", y))
        self.check(EXP, 2, "x^2", "t2", "refused",
                   ("below", el(2, "0"), 1, ("range", el(1, "0"))))

    def test_zero(self):
        chance = random.Random(3)
        for t, n in self.each_level():
            for _ in range(3):
                zero = t.field(n).zero()
                w = chance_fit(chance, t, n)
                self.assertEqual(self.solved(t, n, w, zero), ("found", zero))
                for data in (("simple", zero), ("range", zero), ("digit", zero),
                             ("below", zero, 1, ("simple", t.field(n - 1).zero())),
                             ("simple", t.variable(n)), ("range", t.variable(n))):
                    self.assert_false(self.pure(refutes, t, n, w, zero, data))


class Families(EquationCase):
    def test_powers_over_x(self):
        for k in (1, 2, 3, 4):
            for a in (1, -2, 3):
                for j in range(0, 12):
                    w, g = el(1, f"{a}*x^{k}"), el(1, f"5*x^{j}")
                    kind, data = self.solved(X, 1, w, g)
                    self.assertEqual(kind == "found", (j + 1) % k == 0)
                    if kind == "refused":
                        self.assertEqual(data[0], "range")

    def test_poles_over_x(self):
        # exp(1/x) x^m is the derivative of a multiple of exp(1/x) never but for m = -2, -3, ..
        for m in range(-6, 5):
            kind, data = self.solved(X, 1, el(1, "1/x"), el(1, f"x^({m})"))
            self.assertEqual(kind == "found", m <= -2)

    def test_found_are_the_only_solutions(self):
        chance = random.Random(31)
        for t, n in self.each_level():
            found = 0
            for _ in range(14 if n < 3 else 8):
                w, y = chance_fit(chance, t, n), small_element(chance, n)
                self.assertEqual(self.solved(t, n, w, applied(t, n, w, y)), ("found", y))
                found += 1
            self.assertGreater(found, 0)

    def test_poles_of_many_kinds(self):
        chance = random.Random(32)
        for t, n in self.each_level():
            field, base = t.field(n), t.field(n - 1)
            one = (base.one(),)
            p, r, s = [field.fraction(p, one) for p in normal_polynomials(t, n)[:3]]
            shapes = [((0, 0), (-1, -2)), ((-1, 0), (0, -3)), ((-1, 0), (-2, 0)),
                      ((-2, 0), (2, -1)), ((-1, -1), (3, -2)), ((0, -2), (-1, 1))]
            for (i, k), (j, m) in shapes:
                w = field.multiply(field.power(p, i), field.power(r, k))
                w = field.add(field.multiply(w, s), chance_fit(chance, t, n))
                if t.kind(n) == "exp" and chance.random() < 0.5:
                    w = field.add(w, field.power(t.variable(n), chance.choice((-2, -1, 2))))
                w = fit(t, n, w)
                y = field.multiply(field.power(p, j), field.power(r, m))
                if t.kind(n) == "exp":
                    y = field.multiply(y, field.power(t.variable(n), chance.randint(-3, 1)))
                if w is not None:
                    self.assertEqual(self.solved(t, n, w, applied(t, n, w, y)), ("found", y))

    def test_powers_that_cancel(self):
        for j in range(-4, 5):
            for more in ("1", "t2", "1/t2^2", "x/(t2-2)"):
                y = el(2, f"t2^({j})+{more}")
                for w in (f"{-j}*x/(t2+1)", f"x*t2/(t2+1)*{-j}", f"t2-{j}*x", f"1/t2-{j}*x"):
                    w = fit(EXP, 2, el(2, w))
                    if w is not None:
                        self.assertEqual(self.solved(EXP, 2, w, applied(EXP, 2, w, y)),
                                         ("found", y))


class Refusals(EquationCase):
    # Level by level: a tower, w, g, and the words of the data.
    ROWS = (
        (X, 1, "x", "1/x", ["simple"]),
        (X, 1, "x", "1/(x^2+1)+1/x^3", ["simple"]),
        (X, 1, "1/(x-1)", "1/x", ["simple"]),
        (X, 1, "x^2", "x^2", ["range"]),
        (X, 1, "1/x", "1", ["range"]),
        (X, 1, "1/x", "x-1", ["digit"]),
        (X, 1, "2/x-x/(x^2+1)", "x^7+1", ["digit"]),
        (X, 1, "1/(x^2+1)", "x^3", ["digit"]),
        (LOG, 2, "x", "1/t2", ["simple"]),
        (LOG, 2, "x*t2", "1", ["range"]),
        (LOG, 2, "x+1/t2", "t2-1", ["digit"]),
        (LOG, 2, "1/t2", "1", ["range"]),
        (LOG, 2, "x", "t2^2/x", ["below", "simple"]),
        (LOG, 2, "x^2", "t2+1", ["below", "range"]),
        (LOG, 2, "x", "t2", ["below", "simple"]),
        (LOG, 2, "1/x", "t2*(x-1)", ["below", "digit"]),
        (EXP, 2, "x^2", "1/(t2-1)", ["simple"]),
        (EXP, 2, "t2", "1", ["range"]),
        (EXP, 2, "1/t2", "1", ["range"]),
        (EXP, 2, "1/(t2+1)", "1+t2^2", ["digit"]),
        (EXP, 2, "x^2", "t2", ["below", "range"]),
        (EXP, 2, "x/2", "t2/x+1/t2", ["below", "simple"]),
        (EXP, 2, "1/x", "t2+1", ["below", "range"]),
        (EXP_EXP, 3, "x^2", "t2*t3", ["below", "range"]),
        (EXP_EXP, 3, "x^2", "t2", ["below", "below", "range"]),
        (EXP_EXP, 3, "1/x", "1/x", ["below", "below", "range"]),
        (EXP_LOG, 3, "x^2", "t3*t2", ["below", "below", "range"]),
        (LOG_EXP, 3, "0-x+x*t2", "t3", ["below", "range"]),
        (LOG_EXP, 3, "x*t2", "t2^2", ["below", "range"]),
        (LOG_EXP, 3, "x/3", "t2/x", ["below", "below", "simple"]),
        (tower("log x", "log t2", "exp x*t2"), 4, "x", "t3/x", ["below", "below", "below",
                                                               "simple"]),
        (tower("log x", "exp x", "exp t3/x"), 4, "x^2/2", "t3", ["below", "below", "below",
                                                              "range"]),
    )

    def test_each_kind(self):
        chance = random.Random(5)
        for t, n, w, g, wanted in self.ROWS:
            with self.subTest(kinds=[t.kind(k) for k in range(1, n + 1)], w=w, g=g):
                w, g = el(n, w), el(n, g)
                self.assertEqual(fit(t, n, w), w)
                kind, data = self.solved(t, n, w, g)
                self.assertEqual(kind, "refused")
                self.assertEqual(words(data), wanted)
                self.check_no_others(t, n, w, g, data, chance)
                self.assert_false(refutes(t, n, w, t.field(n).zero(), data))
                # Data for one element, given for a derivative: there is a solution.
                y = small_element(chance, n)
                self.assert_false(refutes(t, n, w, applied(t, n, w, y), data))

    def test_data_with_another_part_changed(self):
        for t, n, w, g, kinds in self.ROWS:
            with self.subTest(kinds=[t.kind(k) for k in range(1, n + 1)], w=w, g=g):
                w, g = el(n, w), el(n, g)
                _, data = equation(t, n, w, g)
                # After another start the rest is another one, but it shows the same.
                others = ["simple", "range", "digit"]
                for word in others:
                    if word != data[0]:
                        self.assert_false(refutes(t, n, w, g, (word, data[1])))
                if data[0] == "below":
                    _, y, i, lower = data
                    for j in (i - 1, i + 1, -i - 7, 10 ** 30):
                        found = refutes(t, n, w, g, ("below", y, j, lower))
                        self.assertIn(found, (False,) if t.kind(n) == "log" else (False, True))
                    self.assert_false(refutes(t, n, w, g, ("below", y, 10 ** 30, lower)))
                    self.assert_false(refutes(t, n, w, g, lower))
                else:
                    zero = t.field(n - 1).zero()
                    self.assert_false(refutes(t, n, w, g, ("below", data[1], 1, ("range", zero))))

    def test_refusals_of_drawn_equations(self):
        chance = random.Random(6)
        seen = set()
        for t, n in self.each_level():
            for _ in range(12 if n < 3 else 6):
                w, g = chance_fit(chance, t, n), small_element(chance, n)
                kind, data = self.solved(t, n, w, g)
                if kind == "refused":
                    seen.add(tuple(words(data)))
                    y = small_element(chance, n)
                    self.assert_false(refutes(t, n, w, applied(t, n, w, y), data))
        self.assertGreater(len(seen), 5)

    def test_no_data_at_all_refute_what_has_a_solution(self):
        chance = random.Random(7)
        for t, n in self.each_level():
            for _ in range(4):
                w, y = chance_fit(chance, t, n), small_element(chance, n)
                g = applied(t, n, w, y)
                starts = [y, t.field(n).zero(), small_element(chance, n),
                          t.field(n).add(y, t.variable(n)), t.field(n).inverse(t.variable(n))]
                for start in starts:
                    for word in ("simple", "range", "digit"):
                        self.assert_false(refutes(t, n, w, g, (word, start)))
                    if n > 1:
                        for word in ("simple", "range", "digit"):
                            lower = (word, small_element(chance, n - 1))
                            data = ("below", start, chance.randint(-2, 3), lower)
                            self.assert_false(refutes(t, n, w, g, data))

    def test_a_start_other_than_the_one_of_the_search(self):
        # g less E(y) decides: any y is as good as another one if the rest shows it.
        w, g = el(1, "x"), el(1, "1/x")
        for y in ("x^3", "7", "0", "1/(x+1)", "5*x-2"):
            self.assert_true(refutes(X, 1, w, g, ("simple", el(1, y))))
        # Here g - E(y) has a pole at 0 of a higher order.
        for y in ("1/x", "1/x^2+5*x", "1/(x^2+x)"):
            self.assert_false(refutes(X, 1, w, g, ("simple", el(1, y))))
        w, g = el(1, "x^2"), el(1, "1")
        self.assert_false(refutes(X, 1, w, g, ("range", el(1, "x"))))
        self.assert_true(refutes(X, 1, w, g, ("range", el(1, "0"))))

    def test_values_of_another_form(self):
        deep = nested(60, tuple)
        for t, n in unlike_levels((X, LOG, EXP, EXP_EXP)):
            w, g = fit(t, n, el(n, "x^2")), el(n, "1/(x+3)")
            zero = t.field(n).zero()
            for value in ODD_VALUES + (
                    deep, nested(60, list), ("simple",), ("simple", zero, zero),
                    ["simple", zero], ("simple", [zero]), ("simple", None), ("simple", 0),
                    ("residue", zero), ("apart", zero), ("constant",), ("part", zero), ("lead",),
                    ("power", zero), (("simple",), zero), ("Simple", zero), ("simple ", zero),
                    ("below", zero), ("below", zero, 1), ("below", zero, True, ("range", zero)),
                    ("below", zero, "1", ("range", zero)), ("below", zero, 0, None),
                    ("below", zero, 0, deep), ("below", deep, 0, deep), ("range", deep),
                    ("simple", el(n + 1, "x"))):
                found = self.pure(refutes, t, n, w, g, value)
                self.assert_false(found)

    def test_below_needs_more_than_x_and_an_element_of_the_level_below(self):
        lower = ("range", el(0, "0"))
        for i in (-1, 0, 1, 2):
            self.assert_false(refutes(X, 1, el(1, "x^2"), el(1, "1"),
                                      ("below", el(1, "0"), i, lower)))
        # w is no element of the level below; f is not reduced; the degree is another one.
        inner = ("range", el(1, "0"))
        self.assert_false(refutes(EXP, 2, el(2, "x^2+t2"), el(2, "t2"),
                                  ("below", el(2, "0"), 1, inner)))
        self.assert_false(refutes(EXP, 2, el(2, "x^2"), el(2, "t2+1/(t2+1)"),
                                  ("below", el(2, "0"), 1, inner)))
        self.assert_true(refutes(LOG, 2, el(2, "x^2"), el(2, "t2+1"),
                                 ("below", el(2, "0"), 1, inner)))
        self.assert_false(refutes(LOG, 2, el(2, "x^2"), el(2, "t2+1"),
                                  ("below", el(2, "0"), 0, inner)))
        self.assert_false(refutes(LOG, 2, el(2, "x^2"), el(2, "t2+1"),
                                  ("below", el(2, "0"), True, inner)))
        self.assert_true(refutes(EXP, 2, el(2, "x^2"), el(2, "t2+1"),
                                 ("below", el(2, "0"), 0, inner)))
        self.assert_false(refutes(EXP, 2, el(2, "x^2"), el(2, "t2+1"),
                                  ("below", el(2, "0"), False, inner)))
        # The coefficient of t^2 is zero.
        self.assert_false(refutes(EXP, 2, el(2, "x^2"), el(2, "t2+1"),
                                  ("below", el(2, "0"), 2, inner)))

    def test_towers_of_all_heights_take_lifted_exponents(self):
        for t in TOWERS:
            n = t.height()
            w = lift(el(1, "x^5"), 1, n)
            self.assertEqual(self.solved(t, n, w, el(n, "5*x^4")), ("found", el(n, "1")))
            kind, data = self.solved(t, n, w, el(n, "1"))
            self.assertEqual(kind, "refused")
            self.assertEqual(words(data), ["below"] * (n - 1) + ["range"])


if __name__ == "__main__":
    unittest.main()
