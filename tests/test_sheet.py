"""Chapter 15, points 15.1 to 15.3 and 15.5: lines, names, texts of answers."""

import itertools
import unittest

from integraph.errors import NoText, Refused, TooLarge
from integraph.integral import integrate
from integraph.printing import parse
from integraph.sheet import answer_text, full_text, is_name, names_after, read_line
from tests.algebra import EXP, LOG, X, el, pol, q, tower
from tests.helpers import ODD_VALUES, PureCase, nested

RESERVED = ("x", "exp", "log", "let", "derive", "integrate", "equal")
SPACES = ("", " ", "   ")


class Names(PureCase):
    def test_names(self):
        for value in ("a", "f", "xx", "xp", "exps", "lo", "le", "lets", "derives", "abcdefghijkl",
                      "zzzzzzzzzzzz", "equals", "integral", "none", "num"):
            self.assert_true(self.pure(is_name, value))

    def test_lengths(self):
        self.assert_false(self.pure(is_name, ""))
        self.assert_true(self.pure(is_name, "q"))
        self.assert_true(self.pure(is_name, "q" * 12))
        self.assert_false(self.pure(is_name, "q" * 13))
        self.assert_false(self.pure(is_name, "q" * 2000))

    def test_reserved_words(self):
        for value in RESERVED:
            self.assert_false(self.pure(is_name, value))

    def test_other_values(self):
        for value in ("F", "f1", "f_", " f", "f ", "a b", "f\n", "\u00e9", "f'", "1", "-", "(",
                      b"f", ("f",), ["f"], nested(60, tuple), nested(60, list)) + ODD_VALUES:
            if value != "text":
                self.assert_false(is_name(value))


class FullTexts(PureCase):
    def test_the_example(self):
        self.assertEqual(self.pure(full_text, {"f": "x + 1"}, "2*f"), "2*(x + 1)")

    def test_names_that_begin_alike_and_names_within_names(self):
        names = {"a": "1", "ab": "2", "abc": "3", "b": "4", "xa": "5", "logs": "6", "x y": "7"}
        for text, wanted in (("a", "(1)"), ("ab", "(2)"), ("abc", "(3)"), ("a+ab+abc+b",
                             "(1)+(2)+(3)+(4)"), ("xa", "(5)"), ("x", "x"), ("a b", "(1) (4)"),
                             ("logs(log(x))", "(6)(log(x))"), ("exp(a)", "exp((1))"),
                             ("2a3b", "2(1)3(4)"), ("a.b-", "(1).(4)-"), ("", ""),
                             ("(1 +)", "(1 +)"), ("a\n", "(1)\n"), (" a ", " (1) ")):
            self.assertEqual(self.pure(full_text, names, text), wanted)

    def test_words_are_longest_runs(self):
        names = {"f": "x"}
        for text in ("ff", "fx", "xf", "fexp", "expf(x)", "xx", "logx", "lo", "let", "derive",
                     "equal", "integrate", "g"):
            error = self.pure_raises(Refused, full_text, names, text)
            self.assertEqual(error.reason, "name")

    def test_full_texts_are_not_replaced_again(self):
        self.assertEqual(self.pure(full_text, {"f": "g", "g": "f"}, "f+g"), "(g)+(f)")

    def test_names_are_not_changed(self):
        names = {"f": "x"}
        full_text(names, "f*f")
        self.assertEqual(names, {"f": "x"})

    def test_lengths(self):
        names = {"f": "1" * 1000, "g": "x"}
        self.assertEqual(len(self.pure(full_text, names, "x" + " " * 3999)), 4000)
        self.assertEqual(len(full_text(names, "f" + "1" * 2998)), 4000)
        self.assertEqual(len(full_text(names, "f-f-f" + "0" * 992)), 4000)
        for text in ("1" * 4001, "f" + "1" * 2999, "f-f-f" + "0" * 993, "f+f+f+f", "f*" * 1000, "g*" * 1001):
            error = self.pure_raises(TooLarge, full_text, names, text)
            self.assertEqual(error.what, "text")

    def test_the_name_comes_before_the_length(self):
        error = self.pure_raises(Refused, full_text, {"f": "1" * 4000}, "f+f+g")
        self.assertEqual(error.reason, "name")


class Lines(PureCase):
    NAMES = {"f": "x + 1", "g": "(x + 1)*x", "big": "1" * 3990, "odd": ")",
             "wide": "x" + " " * 3987 + "+1"}

    def reads(self, line, *wanted):
        self.assertEqual(self.pure(read_line, self.NAMES, line), wanted, line)

    def no_text(self, line, at=0):
        error = self.pure_raises(NoText, read_line, self.NAMES, line)
        self.assertEqual(error.at, at, line)

    def refused(self, line):
        self.assertEqual(self.pure_raises(Refused, read_line, self.NAMES, line).reason, "name")

    def too_large(self, line):
        self.assertEqual(self.pure_raises(TooLarge, read_line, self.NAMES, line).what, "text")

    def test_the_examples(self):
        self.assertEqual(self.pure(read_line, {}, "  let f = x^2 "), ("let", "f", "x^2"))
        self.assertEqual(self.pure_raises(Refused, read_line, {}, "derive g").reason, "name")

    def test_spaces_at_every_place(self):
        for start, end, one in itertools.product(SPACES, SPACES, (" ", "   ")):
            self.reads(f"{start}derive{one}x^2{end}", "derive", parse("x^2"))
            self.reads(f"{start}integrate{one}f{end}", "integrate", parse("x+1"))
            for two, three in itertools.product(SPACES, SPACES):
                self.reads(f"{start}let{one}h{two}={three}2*f{end}", "let", "h", "2*(x + 1)")
                self.reads(f"{start}equal{one}f{two};{three}x + 1{end}", "equal", parse("x+1"),
                           parse("x+1"))
        for spaces in SPACES:
            self.reads(spaces, "empty")
            self.reads(spaces + "#" + spaces, "empty")
            self.reads(spaces + "# let f = ) ; ; == derive" + spaces, "empty")
            self.reads(spaces + "#let", "empty")

    def test_no_space_is_needed_around_signs(self):
        self.reads("let a=x", "let", "a", "x")
        self.reads("equal x;x", "equal", ("x",), ("x",))
        self.reads("derive (x)", "derive", ("x",))
        self.reads("derive -x", "derive", ("neg", ("x",)))
        self.no_text("derive(x)")
        self.no_text("integrate-x")
        self.no_text("equal(x);x")
        self.no_text("leta=x")
        for line in ("derivex", "derive1", "integratex", "integrate(", "letx", "equalx", "derives",
                     "lets", "equals;", "derive#"):
            self.no_text(line)
            self.no_text("  " + line + "  ")

    def test_definitions(self):
        self.reads("let f = f + f", "let", "f", "(x + 1) + (x + 1)")
        self.reads("let new = g/2", "let", "new", "((x + 1)*x)/2")
        self.reads("let abcdefghijkl = 1", "let", "abcdefghijkl", "1")
        self.reads("let a = log(x)  + 1 ", "let", "a", "log(x)  + 1")

    def test_forms_that_are_none(self):
        for line in ("x", "x^2", "f", "lets f = x", "Let f = x", "deriv x", "derives x", "let",
                     "derive", "integrate", "equal", "let ", "derive  ", "let f", "let f x",
                     "let f =", "let f = ", "let = x", "let  = x", "let f g = x", "let F = x",
                     "let f1 = x", "let x = 1", "let log = x", "let derive = x", "let equal = x",
                     "let abcdefghijklm = x", "let f == x", "let f = x = x", "let f = x ; x",
                     "let f = ;", "let f ; x", "let (f) = x", "= x", "; x", "derive x = x",
                     "derive x ; x", "derive x;", "derive ;", "derive =", "integrate x = 1",
                     "integrate ; x", "equal x", "equal x x", "equal x ;", "equal ; x", "equal ;",
                     "equal x ; x ; x", "equal x ;; x", "equal x = x", "equal x ; x = 1",
                     "equal f = x ; x", "let f = # x = 2", "derive x # = y", "1", "(", "\"x\"",
                     "DERIVE x", "derive\\x", "let f=x;", "equal  ;  ", "-", "let let = x",
                     "x # comment", "empty", "names"):
            self.no_text(line)

    def test_characters(self):
        for sign in "%\t\n\r\x00\x1f\x7f\u00a0\u00e9\u2003\x0b\x85":
            self.no_text(f"derive x{sign}")
            self.no_text(f"{sign}derive x")
            self.no_text(f"# note {sign}")
            self.no_text(sign)
            self.no_text(f"derive{sign}x")
        for sign in "!\"$&',./:<>?@[\\]_`{|}~A":
            self.no_text(f"derive x{sign}", 7)
            self.reads(f"# note {sign}", "empty")
        self.reads("# !\"#$&'()*+,-./09:;<=>?@AZ[\\]^_`az{|}~", "empty")

    def test_lengths(self):
        self.reads("derive x" + " " * 1992, "derive", ("x",))
        self.no_text("derive x" + " " * 1993)
        self.reads(" " * 2000, "empty")
        self.no_text(" " * 2001)
        self.reads("#" * 2000, "empty")
        self.no_text("#" * 2001)
        self.no_text("derive nothing" + " " * 2000)

    def test_values_that_are_no_strings(self):
        for value in (None, True, 0, 7, (), [], ("derive x",), ["derive x"], b"derive x",
                      nested(60, tuple), nested(60, list)):
            self.assertEqual(self.pure_raises(NoText, read_line, {}, value).at, 0)

    def test_names(self):
        for line in ("derive h", "integrate let", "equal h ; x", "equal x ; h", "let a = a",
                     "derive ff", "derive xx", "let new = x + unknown", "derive abcdefghijklm",
                     "derive equal", "equal x ; derive"):
            self.refused(line)

    def test_lengths_of_full_texts(self):
        full = "(" + self.NAMES["wide"] + ")+(x + 1)"
        self.assertEqual(len(full), 4000)
        self.reads("let h = wide+f", "let", "h", full)
        self.reads("derive wide+f", "derive", parse("(x+1)+(x+1)"))
        self.reads("equal wide+f ; f+wide", "equal", parse("(x+1)+(x+1)"), parse("(x+1)+(x+1)"))
        self.too_large("let h = wide+ f")
        self.too_large("derive wide+f+")
        self.too_large("equal f ; wide+f-")
        self.too_large("derive big+big")
        self.too_large("equal x ; big*big")
        self.too_large("let h = big+12345678")
        self.no_text("derive big+1234567", 7)
        self.no_text("derive big", 7)

    def test_the_order_of_the_refusals(self):
        # Each kind for all texts, before the next kind.
        self.refused("equal ) ; h")
        self.refused("equal big*big ; h")
        self.refused("equal h ; )")
        self.too_large("equal ) ; big*big")
        self.too_large("equal big*big ; )")
        self.no_text("equal ) ; )", 6)
        self.no_text("equal x ; )", 10)
        self.no_text("equal h ; h ; ")
        self.no_text("let h = h = h")
        self.refused("let h = ) + k")
        self.no_text("let x = k")
        self.no_text("derive k\t")

    def test_positions(self):
        for line, at in (("derive )", 7), ("  derive    x+", 12), ("integrate  2x", 11),
                         ("let a = (x", 8), ("let a=x x", 6), ("  let   a  =   ^", 15),
                         ("equal x+ ; x", 6), ("equal x ; x+", 10), ("equal x;)", 8),
                         ("  equal   f  ;    f f", 18), ("derive odd", 7), ("derive f(x)", 7),
                         ("derive x^31", 7), ("derive f^2^2", 7), ("let a = 00", 8),
                         ("equal 01 ; 02", 6), ("equal f ; odd", 10), ("derive x..", 7),
                         ("derive #", 7), ("derive x # 1", 7)):
            self.no_text(line, at)

    def test_expressions_that_are_not_small(self):
        # A depth of 41 is too much.
        self.no_text("derive " + "x+" * 40 + "x", 7)
        self.no_text("let a = " + "x+" * 40 + "x", 8)
        self.reads("derive " + "x+" * 39 + "x", "derive", parse("x+" * 39 + "x"))
        self.no_text("derive f^30^2", 7)
        self.no_text("derive (((f^10)^10)^10)", 7)
        self.no_text("derive " + "(" * 61 + "x" + ")" * 61, 7)
        self.reads("derive " + "(" * 60 + "x" + ")" * 60, "derive", ("x",))
        # The parentheses around the full text count.
        self.no_text("derive " + "(" * 60 + "f" + ")" * 60, 7)

    def test_the_parentheses_keep_texts_together(self):
        self.reads("derive f*f", "derive", parse("(x+1)*(x+1)"))
        self.reads("derive -f^2", "derive", parse("-(x+1)^2"))
        self.reads("derive 2*f", "derive", parse("2*(x+1)"))
        self.reads("derive exp f", "derive", parse("exp(x+1)"))

    def test_names_are_not_changed(self):
        names = {"f": "x"}
        read_line(names, "let f = f^2")
        self.assertEqual(names, {"f": "x"})

    def test_names_after_a_line(self):
        names = {"f": "x"}
        for line, wanted in (("let f = f^2", {"f": "(x)^2"}), ("let g = 1", {"f": "x", "g": "1"}),
                             ("let f = )", names), ("let x = 1", names), ("derive f", names),
                             ("", names), ("let h = k", names), (None, names)):
            found = names_after(names, line)
            self.assertEqual(found, wanted)
            self.assertIsNot(found, names)
        self.assertEqual(names, {"f": "x"})


class AnswerTexts(PureCase):
    def check(self, t, answer, wanted):
        self.assertEqual(self.pure(answer_text, t, answer), wanted)

    def test_without_pairs(self):
        for text, wanted in (("0", "0"), ("x", "x"), ("x^2/2-3/4", "1/2*x^2 + -3/4"),
                             ("1/(x+1)", "1/(x + 1)"), ("0-x", "-1*x")):
            self.check(X, (el(1, text), ()), wanted)
        self.check(LOG, (el(2, "x*t2-x"), ()), "x*log(x) + -1*x")
        self.check(EXP, (el(2, "1/t2"), ()), "1/exp(x)")

    def test_with_pairs(self):
        zero = el(1, "0")
        pair = (q("1/4", 0, 1), pol(1, "x", "2"))
        other = (q(-3, 1), pol(1, "x^2+1"))
        self.check(X, (zero, (pair,)), "roots(1/4, 0, 1; x, 2)")
        self.check(X, (el(1, "x/2"), (pair,)), "1/2*x + roots(1/4, 0, 1; x, 2)")
        self.check(X, (zero, (pair, other)),
                   "roots(1/4, 0, 1; x, 2) + roots(-3, 1; x^2 + 1)")
        self.check(X, (el(1, "7"), (other, pair, other)),
                   "7 + roots(-3, 1; x^2 + 1) + roots(1/4, 0, 1; x, 2) + roots(-3, 1; x^2 + 1)")

    def test_over_greater_towers(self):
        t = tower("log x", "exp x")
        pair = (q("-1/2", 1), pol(3, "t3+t2/x"))
        self.check(t, (el(3, "t3"), (pair,)), "exp(x) + roots(-1/2, 1; exp(x) + 1/x*log(x))")
        pair = (q(-2, 0, 1), pol(3, "0", "t3"))
        self.check(t, (el(3, "0"), (pair,)), "roots(-2, 0, 1; 0, exp(x))")

    def test_of_integrals(self):
        _, answer = integrate(EXP, 2, el(2, "1/(t2+1)"))
        self.check(EXP, answer, "x + roots(1, 1; exp(x) + 1)")


if __name__ == "__main__":
    unittest.main()
