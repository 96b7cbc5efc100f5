"""Chapter 15, points 15.4, 15.5 and 15.8: replies and entries that are right."""

import random
import unittest

from integraph.answers import derivative
from integraph.build import build
from integraph.console import reply_to
from integraph.printing import parse
from integraph.replies import is_right, plain_reply
from integraph.sheet import answer_text
from integraph.tower import Tower
from tests.algebra import EXP, LOG, el, pol, q
from tests.helpers import ODD_VALUES, PureCase, nested, some_spoiled

NAMES = {"f": "x + 1", "g": "exp(x)", "big": "1" * 3990, "odd": ")"}
# Lines and replies that need no integral.
REPLIES = (
    ("", ("done", "", ())), ("   ", ("done", "", ())), ("# note", ("done", "", ())),
    ("let h = f^2", ("done", "", ())), ("let f = 1", ("done", "", ())),
    ("derive 7", ("element", "0", ((("x",),), el(1, "0")))),
    ("derive x^2 + f", ("element", "2*x + 1", ((("x",),), el(1, "2*x+1")))),
    ("derive log(x)", ("element", "1/x", (LOG.monomials(), el(2, "1/x")))),
    ("derive x*g", ("element", "(x + 1)*exp(x)", (EXP.monomials(), el(2, "(x+1)*t2")))),
    ("derive log(x)^2", ("element", "2/x*log(x)", (LOG.monomials(), el(2, "2*t2/x")))),
    ("equal f ; 1 + x", ("equal", "yes", ())), ("equal f ; x", ("equal", "no", ())),
    ("equal g^2 ; exp(2*x)", ("equal", "yes", ())),
    ("equal log(x^2) ; 2*log(x)", ("equal", "yes", ())),
    ("equal log(x) ; exp(x)", ("equal", "no", ())),
    ("x", ("error", "text 0", ())), ("derive", ("error", "text 0", ())),
    ("derive 2x", ("error", "text 7", ())), ("equal x ; x+", ("error", "text 10", ())),
    ("  integrate )", ("error", "text 12", ())), ("let h = (", ("error", "text 8", ())),
    ("integrate odd", ("error", "text 10", ())), ("integrate x % 2", ("error", "text 0", ())),
    ("derive h", ("error", "refused name", ())), ("integrate h", ("error", "refused name", ())),
    ("derive 1/(x - x)", ("error", "refused zero", ())),
    ("integrate 1/(f - f)", ("error", "refused zero", ())),
    ("derive exp(x + 1)", ("error", "refused constant", ())),
    ("integrate log(2)", ("error", "refused constant", ())),
    ("equal log(x) ; log(2*x)", ("error", "refused constant", ())),
    ("integrate exp(log(x)/2)", ("error", "refused root", ())),
    ("derive big + big", ("error", "large text", ())),
    ("let h = big*big", ("error", "large text", ())),
    ("derive exp(21*log(x) + x)", ("error", "large power", ())),
    ("integrate exp(x) + exp(61*x)", ("error", "large power", ())),
    ("derive exp(x) + exp(x/5) + exp(x/7)", ("error", "large scale", ())),
    ("integrate exp(x) + exp(x^2) + exp(x^3) + exp(x^4)", ("error", "large kernels", ())))
NO_LINES = (None, True, 0, 5, (), ("derive x",), ["derive x"], nested(60, tuple),
            nested(60, list))
INTEGRALS = (
    "integrate x", "integrate 1/(x^2 + 1)", "integrate 0", "  integrate   f ",
    "integrate log(x)", "integrate g*f", "integrate exp(x^2)", "integrate 1/log(x)",
    "integrate g/x", "integrate log(x)/f", "integrate 1/(g + 1) + 1/(x^2 - 2)",
    "integrate exp(g)", "integrate log(x)*g", "integrate 2*x/(x^2 + 3) + 5")


class PlainReplies(PureCase):
    def test_replies(self):
        for line, wanted in REPLIES:
            self.assertEqual(self.pure(plain_reply, NAMES, line), wanted, line)

    def test_values_that_are_no_lines(self):
        for line in NO_LINES:
            self.assertEqual(self.pure(plain_reply, NAMES, line), ("error", "text 0", ()))
        for line in ("derive x\n", "x" * 2001, "derive x\t", "\u00e9"):
            self.assertEqual(self.pure(plain_reply, NAMES, line), ("error", "text 0", ()))

    def test_integrals(self):
        for line in INTEGRALS:
            found = plain_reply(NAMES, line)
            self.assertEqual(len(found), 2)
            self.assertIsInstance(found, tuple)
            t, f = found
            self.assertIsInstance(t, Tower)
            text = line.strip()[9:].strip().replace("f", "(x + 1)").replace("g", "(exp(x))") \
                .replace("lo(exp(x))", "log")
            other, (e,), _ = build((parse(text),))
            self.assertEqual((t.monomials(), f), (other.monomials(), e))
            again, e = plain_reply(NAMES, line)
            self.assertEqual((again.monomials(), e), (t.monomials(), f))


class Right(PureCase):
    def test_replies_of_every_kind(self):
        for line, wanted in REPLIES:
            self.assert_true(self.pure(is_right, NAMES, (line, wanted)))
        for line in NO_LINES:
            self.assert_true(self.pure(is_right, NAMES, (line, ("error", "text 0", ()))))

    def test_other_replies(self):
        others = [("done", "", ()), ("equal", "yes", ()), ("equal", "no", ()),
                  ("error", "text 0", ()), ("error", "refused name", ()), ("none", "none", ()),
                  ("error", "text 7", ()), ("done", "", ((),)), ("done", " ", ())]
        for line, wanted in REPLIES:
            for other in others:
                self.assertIs(is_right(NAMES, (line, other)), other == wanted)

    def test_one_part_changed(self):
        chance = random.Random(71)
        for line, wanted in REPLIES:
            for other in some_spoiled(chance, wanted, 40):
                self.assert_false(is_right(NAMES, (line, other)))
            kind, text, data = wanted
            for other in ((kind + "s", text, data), (kind, text + " ", data),
                          (kind, text, data + ((),)), (kind, data, text), (text, kind, data),
                          (kind, text), (kind, text, data, ()), (kind.upper(), text, data)):
                self.assert_false(is_right(NAMES, (line, other)))

    def test_other_definitions(self):
        entry = ("derive f", ("element", "1", ((("x",),), el(1, "1"))))
        self.assert_true(is_right(NAMES, entry))
        self.assert_true(is_right({"f": "x"}, entry))
        self.assert_false(is_right({"f": "2*x"}, entry))
        self.assert_false(is_right({}, entry))
        self.assert_true(is_right({}, ("derive f", ("error", "refused name", ()))))

    def test_integrals(self):
        for line in INTEGRALS:
            reply = reply_to(NAMES, line)
            self.assertIn(reply[0], ("answer", "none"))
            self.assert_true(self.pure(is_right, NAMES, (line, reply)))

    def test_integrals_with_one_part_changed(self):
        chance = random.Random(72)
        for line in INTEGRALS:
            reply = reply_to(NAMES, line)
            for other in some_spoiled(chance, reply, 60):
                self.assert_false(is_right(NAMES, (line, other)))
            kind, text, (monomials, told) = reply
            longer = monomials + (("exp", Tower(monomials).variable(len(monomials))),)
            for other in ((kind, text + " ", (monomials, told)), (kind, "", (monomials, told)),
                          (kind, text, (longer, told)), (kind, text, (told, monomials)),
                          (kind, text, (monomials,)), (kind, text, (monomials, told, ())),
                          (kind, text, ((("x",),) if monomials != (("x",),) else longer, told)),
                          ("none" if kind == "answer" else "answer", text, (monomials, told)),
                          ("element", text, (monomials, told)), ("done", "", ()),
                          ("error", "refused integral", ()), ("none", "none", (monomials, ())),
                          ("none", "none", (monomials, ("constant",))),
                          ("answer", "0", (monomials, ()))):
                self.assert_false(is_right(NAMES, (line, other)), )

    def test_other_answers(self):
        line = "integrate 1/(exp(x) + 1) + 2*x"
        t, f = plain_reply({}, line)
        self.assertEqual(t.monomials(), EXP.monomials())
        zero, one = q(1, 1), pol(2, "t2+1")
        for part, logs, wanted in (
                ("x^2+x", ((zero, one),), True), ("x^2+x-3/4", ((zero, one),), True),
                ("x^2+x", ((zero, pol(2, "5*t2+5")),), True),
                ("x^2", ((zero, pol(2, "1+1/t2")),), True),
                ("x^2+x", ((zero, one), (q(-1, 1), pol(2, "7"))), True),
                ("x^2+x", ((q("1/2", 1), pol(2, "(t2+1)^2")),), True),
                ("x^2+x", ((zero, pol(2, "t2+2")),), False), ("x^2+x", (), False),
                ("x^2", ((zero, one),), False), ("x^2+x", ((q(-1, 1), one),), False)):
            answer = (el(2, part), logs)
            self.assertEqual(derivative(t, 2, answer) == f, wanted)
            text = answer_text(t, answer)
            data = (t.monomials(), answer)
            self.assertIs(self.pure(is_right, {}, (line, ("answer", text, data))), wanted)
            self.assert_false(is_right({}, (line, ("answer", text + "0", data))))
            self.assert_false(is_right({}, (line, ("answer", "x", data))))
            self.assert_false(is_right({}, (line, ("none", "none", data))))

    def test_other_certificates(self):
        line = "integrate exp(x)/x"
        f, zero = el(2, "t2/x"), el(2, "0")
        reply = reply_to({}, line)
        stop = ("power", 1, el(1, "1/x"), ("simple", el(1, "0")))
        self.assertEqual(reply, ("none", "none", (EXP.monomials(), ("part", (zero, ()), f, stop))))
        step = el(2, "t2")
        moved = EXP.field(2).subtract(f, step)
        for data, wanted in (
                (("part", (zero, ()), f, stop), True), (("part", (step, ()), moved, (
                    "power", 1, el(1, "1/x-1"), ("simple", el(1, "0")))), True),
                (("part", (step, ()), moved, stop), False), (("part", (zero, ()), f, ()), False),
                (("part", (zero, ()), f, ("power", True) + stop[2:]), False),
                (("residue", (zero, zero, f), ((), ()), ((), ())), False)):
            told = ("none", "none", (EXP.monomials(), data))
            self.assertIs(self.pure(is_right, {}, (line, told)), wanted)
        self.assert_false(is_right({}, ("integrate exp(x)*x", reply)))
        self.assert_false(is_right({}, ("integrate exp(x)", reply)))
        self.assert_true(is_right({}, ("integrate exp(x)/x + 0", reply)))

    def test_a_boolean_in_the_place_of_an_integer(self):
        true = ((True, 1),)
        for line, reply in (
                ("derive x", ("element", "1", ((("x",),), (true, ((1, 1),))))),
                ("derive x", ("element", "1", ((("x",),), (((1, 1),), ((1, True),))))),
                ("integrate 1", ("answer", "x", ((("x",),), ((((0, 1), (1, 1)), true), ())))),
                ("integrate 1", ("answer", "x", ((("x",),), ((((False, 1), (1, 1)), ((1, 1),)),
                                                            ())))),
                ("integrate log(x)/x", ("answer", "1/2*log(x)^2", (
                    (("x",), ("log", (((0, 1), (True, 1)), ((1, 1),)))), (el(2, "t2^2/2"), ()))))):
            self.assert_false(self.pure(is_right, {}, (line, reply)))
        reply = ("answer", "1/2*log(x)^2", (LOG.monomials(), (el(2, "t2^2/2"), ())))
        self.assert_true(is_right({}, ("integrate log(x)/x", reply)))

    def test_values_that_are_no_entries(self):
        good = ("derive x", ("element", "1", ((("x",),), el(1, "1"))))
        self.assert_true(is_right({}, good))
        for value in ODD_VALUES + (
                list(good), good + (None,), good[:1], (good,), (good[1], good[0]),
                (good[0], list(good[1])), (good[0], None), (good[0], ()), (good[0], good),
                ("integrate x", None), ("integrate x", ()), ("integrate x", ("answer", "x")),
                ("integrate x", ("answer", "x", ())), ("integrate x", ("none", "none", ((), ()))),
                ("integrate x", ("answer", "x", None)), ("integrate x", ("answer", "x", (1, 2))),
                ("integrate x", (("answer",), "x", ((), ()))), "", "derive x",
                nested(60, tuple), nested(60, list), ("integrate x", nested(59, tuple)),
                ("derive x", nested(59, tuple)), ("", nested(59, list))):
            self.assert_false(self.pure(is_right, {}, value))


if __name__ == "__main__":
    unittest.main()
