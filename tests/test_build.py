"""Chapter 7, points 7.5 to 7.12: towers for expressions, and expressions of elements."""

import copy
import math
import random
import unittest
from fractions import Fraction

from integraph.build import build, expression, grounds, is_tower
from integraph.errors import Fault, Refused, TooLarge
from integraph.expressions import differentiate, is_expression
from integraph.printing import parse, show
from integraph.tower import Tower
from integraph.vectors import combination, is_apart
from tests.algebra import EXP, LOG, TOWERS, X, chance_element, el, rat, tower
from tests.helpers import ODD_VALUES, PureCase, nested, picture
from tests.trees import chance_tree


class BuildCase(PureCase):
    def trees(self, texts):
        return tuple(parse(text) if isinstance(text, str) else text for text in texts)

    def made(self, *texts):
        """Returns what build returns, after the checks that hold for every result."""
        trees = self.trees(texts)
        before = picture(copy.deepcopy(trees))
        t, found, witness = build(trees)
        again = build(trees)
        self.assertEqual(picture(trees), before)
        self.assertEqual((again[0].monomials(), again[1:]), (t.monomials(), (found, witness)))
        self.assert_plain((t.monomials(), found, witness))
        self.assertIsInstance(t, Tower)
        self.assertEqual(len(found), len(trees))
        for e in found:
            self.assert_true(t.field(t.height()).is_element(e))
        self.check_witness(t, witness)
        return t, found, witness

    def check_witness(self, t, witness):
        self.assert_true(is_tower(t.monomials(), witness))
        self.assertEqual(len(witness), t.height() - 1)
        for n in range(1, t.height()):
            items, target = grounds(t, n), t.ground(n + 1)
            self.assert_true(is_apart(n, items, target, witness[n - 1]))
            self.assertEqual(combination(n, items, target), ("apart", witness[n - 1]))

    def check(self, texts, monomials, *wanted):
        """The tower has these monomials, as texts for tower, and the values these texts."""
        t, found, _ = self.made(*texts)
        self.assertEqual(t.monomials(), tower(*monomials).monomials())
        n = t.height()
        self.assertEqual([show(expression(t, e)) for e in found],
                         [show(expression(t, el(n, text))) for text in wanted])
        self.assertEqual(found, tuple(el(n, text) for text in wanted))

    def both(self, first, second, *front):
        """Both texts are one element, in both orders, also behind others."""
        for texts in ((first, second), (second, first), ("x", first, second),
                      ("x", second, first)) + ((front + (first, second),) if front else ()):
            _, found, _ = self.made(*texts)
            self.assertEqual(found[-1], found[-2], texts)

    def refused(self, reason, *texts):
        error = self.pure_raises(Refused, build, self.trees(texts))
        self.assertEqual(error.reason, reason, texts)

    def too_large(self, what, *texts):
        error = self.pure_raises(TooLarge, build, self.trees(texts))
        self.assertEqual(error.what, what, texts)


class Examples(BuildCase):
    def test_logarithms_of_powers(self):
        self.check(["log(x^2)", "log(x)"], ["log x"], "2*t2", "t2")
        self.check(["log(x)", "log(x^2)"], ["log x"], "t2", "2*t2")

    def test_roots_of_exponentials(self):
        self.check(["exp(x)", "exp(x/2)"], ["exp x/2"], "t2^2", "t2")
        self.check(["exp(x/2)", "exp(x)"], ["exp x/2"], "t2", "t2^2")

    def test_one_undoes_the_other(self):
        self.check(["log(exp(x))"], ["exp x"], "x")
        self.check(["exp(log(x))"], ["log x"], "x")
        self.check(["exp(2*log(x) + x)"], ["log x", "exp x"], "x^2*t3")

    def test_refusals(self):
        self.refused("constant", "exp(x + 1)")
        self.check(["log(2*x)"], ["log 2*x"], "t2")
        self.refused("constant", "log(2*x)", "log(x)")
        self.refused("constant", "log(x)", "log(2*x)")
        self.refused("root", "exp(log(x)/2)")
        self.refused("zero", "1/(x - x)")


class Evaluation(BuildCase):
    def test_without_kernels(self):
        self.check(["x"], [], "x")
        self.check(["3/4"], [], "3/4")
        self.check(["-x + x*x - 2/x - x^-3"], [], "x^2-x-2/x-1/x^3")
        self.check([("num", -3, 7)], [], "0-3/7")
        self.assertEqual(self.made("x")[0].monomials(), (("x",),))
        self.assertEqual(self.made("x")[2], ())

    def test_numbers_have_the_level_of_the_height(self):
        self.check(["5", "log(x)", "x"], ["log x"], "5", "t2", "x")
        self.check(["0", "exp(log(x)*x)", "1/2"], ["log x", "exp x*t2"], "0", "t3", "1/2")

    def test_one_to_six_expressions(self):
        texts = ["x", "log(x)", "exp(x)", "x*log(x)", "exp(-x)", "7"]
        for count in range(1, 7):
            _, found, _ = self.made(*texts[:count])
            self.assertEqual(len(found), count)
        self.check(texts, ["log x", "exp x"], "x", "t2", "t3", "x*t2", "1/t3", "7")

    def test_the_order_of_the_kernels(self):
        self.check(["exp(x) + log(x)"], ["exp x", "log x"], "t2+t3")
        self.check(["log(x) + exp(x)"], ["log x", "exp x"], "t3+t2")
        self.check(["log(log(x) + exp(x))"], ["log x", "exp x", "log t2+t3"], "t4")
        self.check(["exp(x^2)", "exp(x)"], ["exp x^2", "exp x"], "t2", "t3")

    def test_powers(self):
        self.check(["x^0", "(x - x)^0", "0^0", "exp(x)^0", "log(x)^3", "log(x)^-2"],
                   ["exp x", "log x"], "1", "1", "1", "1", "t3^3", "1/t3^2")
        self.check(["0^5", "(x-x)^30"], [], "0", "0")
        self.refused("zero", "0^-1")
        self.refused("zero", "(x - x)^-30")
        self.refused("zero", "(log(x) - log(x))^-2")

    def test_constants_of_functions(self):
        self.check(["log(1)", "exp(0)", "log(x/x)", "exp(x - x)", "exp(log(1))"], [],
                   "0", "1", "0", "1", "1")
        for text in ("log(2)", "exp(1)", "exp(-1/2)", "log(-1)", "exp(log(exp(x)/exp(x)) + 3)"):
            self.refused("constant", text)
        self.refused("zero", "log(0)")
        self.refused("zero", "log(x - x)")
        self.refused("zero", "log(log(x) - log(x))")
        self.refused("zero", "1/0")
        self.refused("zero", "x/(exp(x)*exp(-x) - 1)")
        self.check(["log(exp(x)/exp(x))", "exp(log(x) - log(x))"], ["exp x", "log x"], "0", "1")

    def test_the_first_refusal_counts(self):
        self.refused("zero", "1/0 + log(2)")
        self.refused("constant", "log(2) + 1/0")
        self.refused("constant", "log(2)/0")
        self.refused("zero", "log(1/0)")
        self.refused("zero", "1/0", "exp(1)")
        self.refused("constant", "exp(1)", "1/0")
        self.refused("constant", "x", "exp(x + 1) + exp(log(x)/2)")
        self.refused("root", "x", "exp(log(x)/2) + exp(x + 1)")
        self.refused("constant", "exp(1 + log(x)/2)")
        self.refused("root", "exp(log(x)/2 + 30*log(x + 1))")
        self.too_large("power", "exp(30*log(x + 1))", "1/0")
        self.refused("zero", "0^-1 + exp(30*log(x + 1))")

    def test_derivatives_are_elements_of_derivatives(self):
        for text in ("x^3/(x - 1)", "log(x)^2/x", "exp(x)*log(x)", "exp(x^2)/(x + exp(x))",
                     "log(log(x) + x)", "exp(exp(x) + x)", "exp(x*log(x))^2", "-(log(x)^-3)",
                     "log(x^2)*exp(2*log(x) + x/3)", "exp(x/2) - exp(x)*exp(-x/3)",
                     "1/(log(exp(x) + 1) - log(x))"):
            e = parse(text)
            t, (f, g), _ = self.made(e, differentiate(e))
            self.assertEqual(t.derive(t.height(), f), g, text)


class Rules(BuildCase):
    def test_the_exponential_of_a_sum(self):
        self.both("exp(x + x^2)", "exp(x)*exp(x^2)")
        self.both("exp(x - 1/x)", "exp(x)/exp(1/x)")
        self.both("exp(3*x)", "exp(x)^3")
        self.both("exp(-x)", "1/exp(x)")
        self.both("exp(x + x)", "exp(x)*exp(x)", "exp(x/5)")
        self.both("exp(exp(x) + x^2)", "exp(exp(x))*exp(x^2)")

    def test_the_logarithm_of_a_product(self):
        self.both("log(x*(x + 1))", "log(x) + log(x + 1)")
        self.both("log(x/(x + 1))", "log(x) - log(x + 1)")
        self.both("log(x^5)", "5*log(x)")
        self.both("log(1/x)", "-log(x)")
        self.both("log(x^2 - 1)", "log(x - 1) + log(x + 1)", "log(x + 1)")
        self.both("log(x*log(x))", "log(x) + log(log(x))")

    def test_the_exponential_of_a_multiple_of_a_logarithm(self):
        self.both("exp(3*log(x))", "x^3")
        self.both("exp(-2*log(x + 1))", "1/(x + 1)^2")
        self.both("exp(2*log(x) - 3*log(x + 1))", "x^2/(x + 1)^3")
        self.both("exp(log(log(x)))", "log(x)")

    def test_the_logarithm_of_an_exponential(self):
        self.both("log(exp(x^2))", "x^2")
        self.both("log(x*exp(x))", "log(x) + x")
        self.both("log(exp(exp(x)))", "exp(x)")
        self.both("log(exp(x)^7*exp(x^2))", "7*x + x^2")

    def test_the_exponential_of_a_logarithm_and_a_term(self):
        self.both("exp(log(x) + x)", "x*exp(x)")
        self.both("exp(x - 2*log(x))", "exp(x)/x^2")
        self.both("exp(log(x) + log(x + 1) + x/2)", "(x^2 + x)*exp(x/2)", "exp(x)")

    def test_chains(self):
        self.both("exp(log(exp(log(x + 1) + x)))", "(x + 1)*exp(x)")
        self.both("log(exp(x) + exp(2*x))", "x + log(1 + exp(x))", "exp(x)")
        self.both("exp(x)*log(x^2)/2", "log(x)*exp(2*x)/exp(x)")

    def test_functions_that_are_unlike_stay_so(self):
        for first, second in (("log(x)", "log(x + 1)"), ("exp(x)", "exp(x^2)"),
                              ("exp(x)", "exp(2*x)"), ("log(x)", "log(x)^2")):
            for texts in ((first, second), (second, first)):
                _, found, _ = self.made(*texts)
                self.assertNotEqual(found[0], found[1])


class Anew(BuildCase):
    def test_logarithm_nodes(self):
        self.check(["log(x^3)", "log(x)", "log(x^2)"], ["log x"], "3*t2", "t2", "2*t2")
        self.check(["exp(x)", "log(x^2)", "log(x)"], ["log x", "exp x"], "t3", "2*t2", "t2")
        self.check(["log((x + 1)^2)", "log(x^2)", "log(x)", "log(x + 1)"], ["log x+1", "log x"],
                   "2*t2", "2*t3", "t3", "t2")
        self.check(["log(x^2*(x + 1)^2)", "log(x)", "log(x + 1)"], ["log x", "log x+1"],
                   "2*t2+2*t3", "t2", "t3")

    def test_a_node_of_the_list_that_needs_another_one(self):
        self.check(["log(log(x)^2*exp(x))", "log(log(x))"], ["log x", "log t2", "exp x"],
                   "2*t3+x", "t3")

    def test_a_logarithm_node_twice(self):
        self.refused("root", "log(x^2)", "log(x^3)")
        self.refused("root", "log(x^3)", "log(x^2)")
        self.refused("root", "log(x^4)", "log(x^6)", "x")

    def test_a_third_logarithm_undoes_the_refusal_of_none(self):
        # The nodes log(x^2) and log(x^3) are met before log(x), so the refusal counts.
        self.refused("root", "log(x^2)", "log(x^3)", "log(x)")
        self.check(["log(x)", "log(x^2)", "log(x^3)"], ["log x"], "t2", "2*t2", "3*t2")

    def test_refusals_within_a_node_of_the_list(self):
        # log(x) is 1/2 log(4 x^2) by its derivative alone.
        self.refused("constant", "log(4*x^2)", "log(x)")
        self.refused("constant", "log(4*x^2)", "log(x)", "1/0")
        self.refused("zero", "log(x^2)", "1/0", "log(x)")

    def test_scales(self):
        self.check(["exp(x)", "exp(x/2)", "exp(x/3)"], ["exp x/6"], "t2^6", "t2^3", "t2^2")
        self.check(["exp(x/2)", "exp(x/3)"], ["exp x/6"], "t2^3", "t2^2")
        self.check(["exp(x/3)", "exp(x/2)"], ["exp x/6"], "t2^2", "t2^3")
        self.check(["exp(x)", "exp(x^2)", "exp(x/2 + x^2/3)"], ["exp x/2", "exp x^2/3"],
                   "t2^2", "t3^3", "t2*t3")
        self.check(["exp(x + x^2)", "exp(x)", "exp(x^2/2)"], ["exp (x+x^2)/2", "exp x/2"],
                   "t2^2", "t3^2", "t2/t3")

    def test_a_scale_of_24_and_above(self):
        self.check(["exp(x)", "exp(x/24)"], ["exp x/24"], "t2^24", "t2")
        self.check(["exp(x)", "exp(x/4)", "exp(x/6)", "exp(x/24)"], ["exp x/24"],
                   "t2^24", "t2^6", "t2^4", "t2")
        self.check(["exp(x)", "exp(x/8)", "exp(x/3)"], ["exp x/24"], "t2^24", "t2^3", "t2^8")
        self.too_large("scale", "exp(x)", "exp(x/25)")
        self.too_large("scale", "exp(x)", "exp(x/5)", "exp(x/7)")
        self.too_large("scale", "exp(x)", "exp(x/25)", "1/0")
        self.check(["exp(x/25)", "exp(x)"], ["exp x/25"], "t2", "t2^25")
        self.too_large("scale", "exp(x)", "exp(x^2)", "exp(x/25 + x^2/2)")
        self.too_large("scale", "exp(x)", "exp(x^2)", "exp(x/2 + x^2/25)")

    def test_a_scale_belongs_to_a_node(self):
        # The node exp(x) has the scale 2; exp(log(x) + x) is another node.
        self.check(["exp(log(x) + x)", "exp(x/2)"], ["log x", "exp x/2"], "x*t3^2", "t3")
        self.check(["exp(x)*exp(x)", "exp(x/2)", "exp(3*x/2)"], ["exp x/2"], "t2^4", "t2", "t2^3")

    def test_both_kinds_together(self):
        self.check(["exp(x)*log(x^2)", "exp(x/2)*log(x)"], ["log x", "exp x/2"],
                   "2*t3^2*t2", "t3*t2")


class Limits(BuildCase):
    def test_powers_of_logarithms(self):
        self.check(["exp(20*log(x))"], ["log x"], "x^20")
        self.check(["exp(-20*log(x))"], ["log x"], "x^-20")
        self.too_large("power", "exp(21*log(x))")
        self.too_large("power", "exp(-21*log(x))")
        self.too_large("power", "exp(log(x) + 21*log(x + 1) + x)")
        self.too_large("power", "exp(10*log(x^3))", "log(x)")

    def test_powers_of_exponentials(self):
        self.check(["exp(x)", "exp(60*x)"], ["exp x"], "t2", "t2^60")
        self.check(["exp(x)", "exp(-60*x)"], ["exp x"], "t2", "t2^-60")
        self.too_large("power", "exp(x)", "exp(61*x)")
        self.too_large("power", "exp(x)", "exp(-61*x)")
        self.too_large("power", "exp(x)", "exp(x^2)", "exp(x - 61*x^2)")
        # exp(3 x) is the ninth power of exp(x/3), and 21 x its 63th.
        self.too_large("power", "exp(x/3)", "exp(21*x)")
        self.check(["exp(x/3)", "exp(20*x)"], ["exp x/3"], "t2", "t2^60")

    def test_powers_of_nodes_are_not_limited_by_this(self):
        self.check(["exp(x)^30*exp(x)^30*exp(x)^30"], ["exp x"], "t2^90")
        self.check(["log(x^30*x^30*x^30)", "log(x)"], ["log x"], "90*t2", "t2")

    def test_kernels(self):
        self.check(["log(x)", "log(x + 1)", "exp(x)"], ["log x", "log x+1", "exp x"],
                   "t2", "t3", "t4")
        self.too_large("kernels", "log(x)", "log(x + 1)", "exp(x)", "exp(x^2)")
        self.too_large("kernels", "log(x)", "log(x + 1)", "exp(x)", "log(x + 2)")
        self.too_large("kernels", "log(log(log(log(x))))")
        self.too_large("kernels", "exp(exp(exp(exp(x))))")
        self.check(["log(log(log(x)))"], ["log x", "log t2", "log t3"], "t4")
        self.check(["log(x)", "log(x + 1)", "exp(x)", "exp(2*x + log(x^2 + x))"],
                   ["log x", "log x+1", "exp x"], "t2", "t3", "t4", "t4^2*(x^2+x)")

    def test_kernels_where_they_would_be_put(self):
        self.refused("constant", "log(x)", "log(x + 1)", "exp(x)", "exp(x^2 + 1)")
        self.refused("constant", "log(x)", "log(x + 1)", "exp(x)", "log(7)", "exp(x^2)")
        self.refused("zero", "log(x)", "log(x + 1)", "exp(x)", "1/0 + exp(x^2)")
        self.too_large("kernels", "log(x)", "log(x + 1)", "exp(x)", "exp(x^2) + 1/0")

    def test_roots(self):
        for text in ("exp(log(x)/2)", "exp(x + log(x)/3)", "exp(log(x) + log(x + 1)/2)",
                     "exp(2*log(x)/7)", "exp(exp(x) - 3*log(x)/2)"):
            self.refused("root", text)


class Numbers(BuildCase):
    """The values of expressions and of their elements, in floating point."""

    def number(self, e, x):
        word = e[0]
        if word == "num":
            return e[1] / e[2]
        if word == "x":
            return x
        a = self.number(e[1], x)
        if word == "neg":
            return -a
        if word == "pow":
            return a ** e[2]
        if word in ("exp", "log"):
            return getattr(math, word)(a)
        b = self.number(e[2], x)
        return {"add": a + b, "sub": a - b, "mul": a * b}[word] if word != "div" else a / b

    def element_number(self, n, e, values):
        if n == 0:
            return e[0] / e[1]
        top, bottom = [sum(self.element_number(n - 1, c, values) * values[n - 1] ** k
                           for k, c in enumerate(p)) for p in e]
        return top / bottom

    def kernel_numbers(self, t, x):
        values = [x]
        for n in range(2, t.height() + 1):
            a = self.element_number(n - 1, t.argument(n), values)
            values.append(math.exp(a) if t.kind(n) == "exp" else math.log(a))
        return values

    def test_elements_have_the_values_of_their_expressions(self):
        chance = random.Random(11)
        met, kinds = 0, set()
        for _ in range(600):
            e = chance_tree(chance, chance.randint(3, 5),
                            ("add", "sub", "mul", "div", "exp", "log", "exp", "log", "pow"))
            if not is_expression(e) or any(k in repr(e) for k in ("30", "-20", "19", "17")):
                continue
            try:
                x = 1.7
                wanted = self.number(e, x)
            except (ValueError, ZeroDivisionError, OverflowError):
                continue
            try:
                t, (f,), _ = build((e,))
            except Fault:
                continue
            kinds.add(tuple(kind for kind, *_ in t.monomials()))
            try:
                found = self.element_number(t.height(), f, self.kernel_numbers(t, x))
            except (ValueError, OverflowError):
                continue
            met += 1
            self.assertTrue(math.isclose(found, wanted, rel_tol=1e-5, abs_tol=1e-7), show(e))
        self.assertGreater(met, 100)
        self.assertGreater(len(kinds), 6)


class Grounds(BuildCase):
    def test_grounds(self):
        self.assertEqual(self.pure(grounds, X, 1), ())
        self.assertEqual(self.pure(grounds, LOG, 2), (el(2, "1/x"),))
        self.assertEqual(grounds(LOG, 1), ())
        self.assertEqual(grounds(EXP, 2), (el(2, "1"),))
        t = tower("log x", "exp x*t2", "log t3+1")
        self.assertEqual(grounds(t, 3), (el(3, "1/x"), el(3, "t2+1")))
        self.assertEqual(grounds(t, 4), (el(4, "1/x"), el(4, "t2+1"), el(4, "(t2+1)*t3/(t3+1)")))
        for t in TOWERS:
            for n in range(1, t.height() + 1):
                self.assertEqual(grounds(t, n), tuple(
                    t.raise_to(t.ground(k), k - 1, n) for k in range(2, n + 1)))


class IsTower(BuildCase):
    TEXTS = (("x",), ("log(x)",), ("exp(x)",), ("log(x)", "exp(x*log(x))"),
             ("exp(x)", "exp(exp(x))", "log(x)"), ("log(log(x)) + exp(x)",))

    def test_what_build_returns(self):
        for texts in self.TEXTS:
            t, _, witness = self.made(*texts)
            self.assert_true(self.pure(is_tower, t.monomials(), witness))

    def test_every_form_of_what_is_no_tower(self):
        for texts in self.TEXTS:
            t, _, witness = self.made(*texts)
            monomials = t.monomials()
            for value in ODD_VALUES + (nested(60, tuple), nested(60, list)):
                self.assert_false(self.pure(is_tower, value, witness))
                if value != witness:
                    self.assert_false(self.pure(is_tower, monomials, value))
                for n in range(len(witness)):
                    spoilt = witness[:n] + (value,) + witness[n + 1:]
                    self.assert_false(is_tower(monomials, spoilt))
            self.assert_false(is_tower(list(monomials), witness))
            self.assert_false(is_tower(monomials, list(witness)))
            self.assert_false(is_tower(monomials + (("x",),), witness))

    def test_rows_and_weights(self):
        for texts in self.TEXTS:
            t, _, witness = self.made(*texts)
            monomials = t.monomials()
            for n, rows in enumerate(witness):
                for at, (where, weight) in enumerate(rows):
                    fewer = rows[:at] + rows[at + 1:]
                    other = rows[:at] + ((where, rat(Fraction(*weight) + 1)),) + rows[at + 1:]
                    boolean = rows[:at] + ((where, (True, 1)),) + rows[at + 1:]
                    for spoilt in (fewer, other, boolean, list(rows)):
                        given = witness[:n] + (spoilt,) + witness[n + 1:]
                        good = isinstance(spoilt, tuple) and spoilt != boolean and is_apart(
                            n + 1, grounds(t, n + 1), t.ground(n + 2), spoilt)
                        self.assertIs(is_tower(monomials, given), good)
                        if weight != (0, 1) and len(grounds(t, n + 1)) > 0:
                            self.assert_false(is_tower(monomials, witness[:n] + (fewer,)
                                                       + witness[n + 1:]))
                self.assert_false(is_tower(monomials, witness[:n] + witness[n + 1:]))
            self.assert_false(is_tower(monomials, witness + ((),)))
            self.assert_false(is_tower(monomials, witness + witness[:1] + ((),)))

    def test_rows_of_another_tower(self):
        _, _, log_rows = self.made("log(x)")
        _, _, both = self.made("log(x)", "log(x + 1)")
        twice = (("x",), ("log", el(1, "x")), ("log", el(2, "x")))
        self.assert_false(is_tower(twice, both))
        self.assert_false(is_tower((("x",), ("log", el(1, "x")), ("log", el(2, "x^2"))), both))
        self.assert_false(is_tower(twice, log_rows))
        self.assert_true(is_tower(twice[:2], log_rows))

    def test_arguments_with_constant_and_logarithmic_parts(self):
        t, _, witness = self.made("exp(x)")
        for text in ("x+1", "x-2/3"):
            self.assert_false(is_tower((("x",), ("exp", el(1, text))), witness))
        t, _, witness = self.made("log(x)", "exp(x*log(x))")
        for text, good in (("x*t2", True), ("x*t2+t2", False), ("x*t2+5", False),
                           ("(x+1)*t2", False), ("x*t2+x", True)):
            monomials = t.monomials()[:2] + (("exp", el(2, text)),)
            rows = combination(2, grounds(LOG, 2), Tower(monomials).ground(3))[1]
            self.assertIs(is_tower(monomials, (witness[0], rows)), good)
            # Without these rows nothing is a tower.
            self.assert_false(is_tower(monomials, (witness[0], ())))

    def test_values_beside_a_tower(self):
        _, _, witness = self.made("log(x)")
        for monomials in ((("x",), ("log", el(1, "2"))), (("x",), ("sin", el(1, "x"))),
                          (("log", el(1, "x")), ("x",)), (("x",), ("log", el(2, "t2"))), ()):
            self.assert_false(is_tower(monomials, witness))
        self.assert_true(is_tower((("x",),), ()))
        for other in (None, False, 0, "", [], ((),)):
            self.assert_false(is_tower((("x",),), other))


class Expressions(BuildCase):
    def check_text(self, t, text, wanted):
        found = self.pure(expression, t, el(t.height(), text))
        self.assertEqual(show(found), wanted)
        return found

    def test_numbers_and_zero(self):
        for t in TOWERS:
            n = t.height()
            self.assertEqual(self.pure(expression, t, el(n, "0")), ("num", 0, 1))
            self.assertEqual(expression(t, el(n, "1")), ("num", 1, 1))
            self.assertEqual(expression(t, el(n, "0-2/3")), ("num", -2, 3))

    def test_the_order_of_the_terms(self):
        x = ("x",)
        self.assertEqual(
            expression(X, el(1, "x^3-x/2+5")),
            ("add", ("add", ("pow", x, 3), ("mul", ("num", -1, 2), x)), ("num", 5, 1)))
        self.assertEqual(expression(X, el(1, "3*x^2")), ("mul", ("num", 3, 1), ("pow", x, 2)))
        self.check_text(X, "7+x+2*x^2+x^4", "x^4 + 2*x^2 + x + 7")

    def test_coefficients_of_one(self):
        x, t = ("x",), ("log", ("x",))
        self.assertEqual(expression(X, el(1, "x")), x)
        self.assertEqual(expression(X, el(1, "0-x")), ("mul", ("num", -1, 1), x))
        self.assertEqual(expression(LOG, el(2, "t2^2+t2+1")),
                         ("add", ("add", ("pow", t, 2), t), ("num", 1, 1)))
        self.assertEqual(expression(LOG, el(2, "x*t2")), ("mul", x, t))
        self.assertEqual(expression(LOG, el(2, "t2/x")),
                         ("mul", ("div", ("num", 1, 1), x), t))

    def test_denominators(self):
        x = ("x",)
        self.assertEqual(expression(X, el(1, "1/x")), ("div", ("num", 1, 1), x))
        self.assertEqual(expression(X, el(1, "(x+1)/(x^2-2)")),
                         ("div", ("add", x, ("num", 1, 1)),
                          ("add", ("pow", x, 2), ("num", -2, 1))))
        self.assertEqual(expression(X, el(1, "x/2")), ("mul", ("num", 1, 2), x))
        self.check_text(EXP, "1/(t2+x)", "1/(exp(x) + x)")

    def test_variables_over_their_arguments(self):
        t = tower("log x+1", "exp x*t2", "log t3+x")
        self.check_text(t, "t4", "log(exp(x*log(x + 1)) + x)")
        self.check_text(t, "t3*t4^2/x", "1/x*exp(x*log(x + 1))*log(exp(x*log(x + 1)) + x)^2")

    def test_high_powers(self):
        def power(k):
            return ("x",) if k == 1 else ("pow", ("x",), k)
        for k, parts in ((30, (30,)), (31, (30, 1)), (32, (30, 2)), (60, (30, 30)),
                         (61, (30, 30, 1)), (90, (30, 30, 30)), (95, (30, 30, 30, 5))):
            wanted = power(parts[0])
            for part in parts[1:]:
                wanted = ("mul", wanted, power(part))
            self.assertEqual(expression(X, el(1, f"x^{k}")), wanted)
            self.assertEqual(expression(X, el(1, f"2*x^{k}+1")),
                             ("add", ("mul", ("num", 2, 1), wanted), ("num", 1, 1)))
            self.assertEqual(expression(X, el(1, f"1/x^{k}")),
                             ("div", ("num", 1, 1), wanted))
        self.check_text(EXP, "t2^31", "exp(x)^30*exp(x)")

    def test_building_gives_the_element_back(self):
        chance = random.Random(12)
        for texts in IsTower.TEXTS:
            t, _, _ = self.made(*texts)
            n = t.height()
            kernels = tuple(expression(t, t.raise_to(t.variable(k), k, n)) for k in range(1, n + 1))
            some = [el(n, f"t{n}^31*x-1"), el(n, f"x^61/(t{n}+2)")]
            some += [chance_element(chance, t.field(n)) for _ in range(6)]
            for e in some:
                written = self.pure(expression, t, e)
                if is_expression(written):
                    again, found, _ = build(kernels + (written,))
                    self.assertEqual(again.monomials(), t.monomials())
                    self.assertEqual(found[-1], e)


if __name__ == "__main__":
    unittest.main()
