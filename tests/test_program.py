"""The whole program: the main facts of point 0.4, and points 0.2 and 15.7 over many texts."""

import random
import unittest

from integraph.answers import derivative
from integraph.build import build, is_tower
from integraph.checker import accepts
from integraph.console import Console, reply_to
from integraph.errors import Refused, TooLarge
from integraph.expressions import differentiate
from integraph.integral import integrate
from integraph.log import first_wrong, read_log, write_log
from integraph.printing import parse, show
from integraph.replies import is_right
from integraph.tower import Tower
from tests.helpers import PureCase

# Texts of which derivatives are integrated.
TEXTS = (
    "x^5 - 3*x + 1/x", "log(x)", "x*log(x)^2", "exp(x)/x", "exp(x^2)*log(x)", "log(log(x))",
    "exp(exp(x))", "log(exp(x) + 1)", "exp(x*log(x))", "log(x)/(exp(x) + x)", "1/log(x + 1)",
    "log(x^2 + 1)*exp(-x)", "exp(1/x)*x", "log(x + exp(x))", "exp(x)/(1 + log(x))",
    "(exp(x) - 1)^3/(exp(x) + 1)^2", "log(log(log(x)))", "exp(x)*log(exp(x) + x)/x",
    "exp(log(x)^2)", "exp(x*log(x))/(x + 1)", "log((x - 1)/(x + 1))", "exp(2*x)/(exp(x) + log(x))",
    "exp(1/(x + 1))*log(x)", "log(x)*log(x + 1)*log(x + 2)", "exp(x)*exp(x^2)*exp(x^3)/x",
    "1/(exp(x) + exp(-x))", "log(x)^3/(x*(log(x)^2 + 1))", "exp(-x^2)*(x^3 + log(x))",
    "log(1 + exp(exp(x)))", "(x + log(x))^4/(x - log(x))^2", "exp(x*exp(x))",
    "log(x)/log(x + 1)", "log(exp(x)*x + 1)^2", "exp(x + log(x)*2)/(x + 5)")


def chance_text(chance, levels):
    if levels == 0:
        return chance.choice(("x", "x", "x^2", "1/x", str(chance.randint(1, 9))))
    word = chance.choice("++-**/^le")
    one = chance_text(chance, levels - 1)
    two = chance_text(chance, chance.randint(0, levels - 1))
    return {"^": f"({one})^{chance.choice((2, 3, -1, -2))}", "l": f"log({one})",
            "e": f"exp({one})"}.get(word, f"({one}){word}({two})")


class MainFacts(PureCase):
    def check_element(self, t, n, f):
        """Facts 1 and 3 for one element; returns what integrate returns."""
        kind, found = integrate(t, n, f)
        if kind == "found":
            self.assertEqual(derivative(t, n, found), f)
        else:
            self.assertEqual(kind, "refused")
            self.assert_true(accepts(t, n, f, found))
        return kind

    def check_line(self, line):
        """The reply to an `integrate` line; returns its kind."""
        reply = reply_to({}, line)
        self.assert_true(is_right({}, (line, reply)))
        if reply[0] in ("answer", "none"):
            t, (f,), _ = build((parse(line.partition(" ")[2]),))
            self.assertEqual(reply[2][0], t.monomials())
            if reply[0] == "answer":
                self.assertEqual(derivative(Tower(reply[2][0]), t.height(), reply[2][1]), f)
            else:
                self.assertEqual(reply[1], "none")
                self.assert_true(accepts(t, t.height(), f, reply[2][1]))
        return reply[0]

    def check_derivative(self, text):
        """The derivative of a text has an integral; returns False if it cannot be built."""
        e = parse(text)
        try:
            t, (f,), witness = build((e,))
        except (Refused, TooLarge):
            return False
        n = t.height()
        self.assert_true(is_tower(t.monomials(), witness))
        self.assertEqual(self.check_element(t, n, t.derive(n, f)), "found", text)
        told = reply_to({}, f"derive {text}")
        self.assertEqual(told[0], "element")
        for line in (f"integrate {told[1]}", f"integrate {show(differentiate(e))}"):
            if len(line) <= 2000:
                self.assertIn(self.check_line(line), ("answer", "error"), line)
        return True

    def test_derivatives_of_texts(self):
        for text in TEXTS:
            self.assertTrue(self.check_derivative(text), text)

    def test_derivatives_of_drawn_texts(self):
        chance = random.Random(91)
        built = sum(self.check_derivative(chance_text(chance, chance.randint(1, 4)))
                    for _ in range(150))
        self.assertGreater(built, 100)

    def test_drawn_texts(self):
        chance = random.Random(92)
        kinds = [self.check_line(f"integrate {chance_text(chance, chance.randint(1, 4))}")
                 for _ in range(200)]
        self.assertEqual(set(kinds), {"answer", "none", "error"})

    def test_derivatives_with_something_added(self):
        # What has no integral has none either with a derivative added.
        for text in ("exp(x)/x", "1/log(x)", "exp(x^2)", "log(x)/(x + 1)", "exp(exp(x))"):
            for more in ("x*exp(x)", "log(x)^2", "1/(x + log(x))", "exp(x^2)/x", "x^3"):
                both = (parse(text), parse(more), parse(f"{text} + {more}"))
                try:
                    t, (f, g, _), _ = build(both)
                except (Refused, TooLarge):
                    continue
                n = t.height()
                self.assertEqual(self.check_element(t, n, f), "refused")
                total = t.field(n).add(f, t.derive(n, g))
                self.assertEqual(self.check_element(t, n, total), "refused")

    def test_one_integral_in_several_forms(self):
        for texts in (("log(x^2)", "2*log(x)"), ("exp(2*x)/x", "exp(x)^2/x"),
                      ("exp(x + log(x))", "x*exp(x)"), ("log(x*exp(x))", "log(x) + x"),
                      ("1/(exp(x) + 1)", "exp(-x)/(1 + exp(-x))")):
            kinds = {self.check_line(f"integrate {text}") for text in texts}
            self.assertEqual(len(kinds), 1)
            self.assertNotIn("error", kinds)


class Worksheets(PureCase):
    def test_logs_of_drawn_worksheets(self):
        chance = random.Random(93)
        for _ in range(6):
            console = Console()
            for _ in range(25):
                text = chance_text(chance, chance.randint(0, 3)).replace(
                    "9", chance.choice(("f", "g", "9")))
                line = chance.choice(("let f = ", "let g = ", "derive ", "integrate ", "equal f ; ",
                                      "integrate f + ", "# ", "")) + text
                console.enter(line)
            entries = console.entries()
            written = write_log(entries)
            self.assertEqual(read_log(written), entries)
            self.assertEqual(first_wrong(entries), -1)
            for entry in entries:
                self.assert_plain(entry)


if __name__ == "__main__":
    unittest.main()
