"""Chapter 15, points 15.8 to 15.10: data and logs, written and read."""

import random
import unittest

from integraph.console import Console, reply_to
from integraph.errors import Malformed, NoText
from integraph.log import first_wrong, read_data, read_log, write_data, write_log
from tests.algebra import el
from tests.helpers import ODD_VALUES, PureCase, nested

DATA = (
    (0, "0"), (7, "7"), (-7, "-7"), (10, "10"), (-100, "-100"), (10 ** 60, "1" + "0" * 60),
    ("a", "a"), ("abcdefghijkl", "abcdefghijkl"), ("zzzzzzzzzzzz", "zzzzzzzzzzzz"), ((), "()"),
    (((),), "(())"), (((), ()), "(() ())"), ((1,), "(1)"), (("a",), "(a)"), (("a", "b"), "(a b)"),
    ((-1, "x", (0, (), "exp")), "(-1 x (0 () exp))"), (("log", (-1, 2), ()), "(log (-1 2) ())"),
    (("true", "none"), "(true none)"), ((1, 23), "(1 23)"), ((12, 3), "(12 3)"))


def chance_data(chance, levels):
    if levels == 0 or chance.random() < 0.4:
        if chance.random() < 0.5:
            return chance.choice((0, 1, -1, chance.randint(-10 ** 30, 10 ** 30)))
        return "".join(chance.choice("abcxyz") for _ in range(chance.randint(1, 12)))
    return tuple(chance_data(chance, levels - 1) for _ in range(chance.randint(0, 4)))


class Data(PureCase):
    def test_both_ways(self):
        for value, text in DATA:
            self.assertEqual(self.pure(write_data, value), text)
            found = self.pure(read_data, text)
            self.assertEqual(found, value)
            self.assertIs(type(found), type(value))

    def test_drawn_data(self):
        chance = random.Random(81)
        for _ in range(200):
            value = chance_data(chance, 5)
            text = self.pure(write_data, value)
            self.assertEqual(self.pure(read_data, text), value)
            # Every proper beginning is the beginning of a written form, or one itself.
            for end in range(len(text)):
                try:
                    found = read_data(text[:end])
                except NoText as error:
                    self.assertEqual(error.at, end)
                else:
                    self.assertEqual(write_data(found), text[:end])

    def test_integers_of_any_size(self):
        for digits in (1, 499, 500, 501, 4300, 4301, 20000):
            for sign in ("", "-"):
                text = sign + "7" * digits
                value = read_data(text)
                self.assertEqual(write_data(value), text)
                self.assertEqual(value < 0, sign == "-")
                self.assertEqual(abs(value), 7 * (10 ** digits - 1) // 9)

    def test_depths(self):
        self.assertEqual(self.pure(write_data, nested(60, tuple)), "(" * 60 + ")" * 60)
        self.assertEqual(self.pure(read_data, "(" * 60 + ")" * 60), nested(60, tuple))
        self.pure_raises(Malformed, write_data, nested(61, tuple))
        self.assertEqual(self.at("(" * 61 + ")" * 61), 60)
        self.assertEqual(self.at("(" * 61), 60)
        self.assertEqual(self.at("(" * 60), 60)
        self.assertEqual(self.at("(a " + "(" * 60), 62)
        deep = 5
        for _ in range(60):
            deep = (deep, "a")
        self.assertEqual(read_data(write_data(deep)), deep)
        self.pure_raises(Malformed, write_data, (deep,))

    def at(self, text):
        return self.pure_raises(NoText, read_data, text).at

    def test_where_a_text_is_no_beginning(self):
        for text, at in (
                ("", 0), (" ", 0), (" 1", 0), ("1 ", 1), ("a ", 1), ("() ", 2), (")", 0), ("(", 1),
                ("( a)", 1), ("(a  b)", 3), ("(a )", 3), ("(a", 2), ("(a ", 3), ("(()", 3),
                ("())", 2), ("()()", 2), ("(a)b", 3), ("ab cd", 2), ("01", 1), ("00", 1), ("-", 1),
                ("-0", 1), ("-01", 1), ("--1", 1), ("-a", 1), ("(-)", 2), ("(01)", 2), ("(-0)", 2),
                ("(1 -0)", 4), ("+1", 0), ("1a", 1), ("a1", 1), ("(1a)", 2), ("(a1)", 2),
                ("(a(b))", 2), ("(1(2))", 2), ("(()())", 3), ("(()a)", 3), ("A", 0), ("aB", 1),
                ("(a B)", 3), ("abcdefghijklm", 12), ("(abcdefghijklm)", 13), ("(a,b)", 2),
                ("[a]", 0), ("(a\tb)", 2), ("(a\nb)", 2), ("()\n", 2), ("1.5", 1), ("\"a\"", 0),
                ("(1 2", 4), ("(1 2 ", 5), ("(1 (", 4), ("1-", 1), ("1-2", 1), ("12_3", 2),
                ("\u0661", 0), ("1\u0661", 1), ("\u00e9", 0), ("a\u00e9", 1), ("(1 2))", 5),
                ("(0 00)", 4), ("(- 1)", 2), ("0a", 1), ("-1a", 2), ("None", 0), ("True", 0)):
            self.assertEqual(self.at(text), at, text)

    def test_values_that_are_no_strings(self):
        for value in (None, True, 0, 5, (), ("a",), [], ["a"], b"a", nested(60, tuple)):
            self.assertEqual(self.at(value), 0)

    def test_malformed(self):
        values = [None, True, False, [], [1], "", "A", "aB", "a b", "a1", "1", "abcdefghijklm",
                  "-", " ", "\n", "a\n", "\u00e9", (None,), (1, True), ([],), ("",), (1, ("", 2)),
                  ("a", "b", "C"), ((((), [1]),),), nested(3, list), {}, 1.5]
        for value in values:
            self.pure_raises(Malformed, write_data, value)
            self.pure_raises(Malformed, write_data, (1, value))


ENTRIES = [
    ("let f = x", ("done", "", ())), ("", ("done", "", ())), ("derive f", (
        "element", "1", ((("x",),), el(1, "1")))), ("> = #", ("error", "text 0", ())),
    ("  # > ", ("done", "", ())), ("equal f ; x", ("equal", "yes", ()))]
WRITTEN = """> let f = x
= done\x20
# ()
>\x20
= done\x20
# ()
> derive f
= element 1
# (((x)) (((1 1)) ((1 1))))
> > = #
= error text 0
# ()
>   # >\x20
= done\x20
# ()
> equal f ; x
= equal yes
# ()
"""


class Logs(PureCase):
    def test_both_ways(self):
        self.assertEqual(write_log(ENTRIES), WRITTEN)
        self.assertEqual(write_log(ENTRIES), WRITTEN)
        self.assertEqual(read_log(WRITTEN), ENTRIES)
        self.assertEqual(read_log(WRITTEN), read_log(WRITTEN))
        self.assertIsInstance(read_log(WRITTEN), list)
        for size in range(len(ENTRIES)):
            self.assertEqual(read_log(write_log(ENTRIES[:size])), ENTRIES[:size])
        self.assertEqual((write_log([]), read_log("")), ("", []))

    def test_any_line_and_text_without_a_line_feed(self):
        for line in ("", " ", "> ", "= ", "# ", "#", "\r", "\t\u00e9 \x0b\x0c\x1c\u2028", "a" * 3000):
            for text in ("", " ", "= x", "> y", "# z", "\r", " a  b ", "\u2029\x85"):
                for kind in ("a", "answer", "abcdefghijkl"):
                    entries = [(line, (kind, text, (1, ())))] * 2
                    written = self.pure_list(write_log, entries)
                    self.assertEqual(written, f"> {line}\n= {kind} {text}\n# (1 ())\n" * 2)
                    self.assertEqual(read_log(written), entries)

    def pure_list(self, function, entries):
        before = list(entries)
        found = function(entries)
        self.assertEqual(entries, before)
        self.assertEqual(function(entries), found)
        return found

    def at(self, text):
        return self.pure_raises(NoText, read_log, text).at

    def test_the_first_wrong_line(self):
        rows = WRITTEN.split("\n")[:-1]
        for at in range(len(rows)):
            faults = ["", "?", rows[at][1:], " " + rows[at], rows[at].replace(" ", "", 1),
                      rows[at][:1], rows[at].replace(rows[at][0], "x", 1)]
            if at % 3 == 1:
                faults += ["= done", "= ", "=  x", "= Done ", "= abcdefghijklm x", "= a1 ", "= -"]
            if at % 3 == 2:
                faults += ["# ", "# (", "# ())", "# 01", "# (a  b)", "# () ", "#  ()", "# None"]
            if at % 3 == 0:
                # Any line may stand behind this mark.
                faults = [fault for fault in faults if not fault.startswith("> ")]
            for fault in faults:
                text = "\n".join(rows[:at] + [fault] + rows[at + 1:]) + "\n"
                self.assertEqual(self.at(text), at, (at, fault))

    def test_lines_too_many_or_too_few(self):
        rows = WRITTEN.split("\n")[:-1]
        for at in range(len(rows)):
            whole = "".join(row + "\n" for row in rows[:at])
            if at % 3 == 0:
                self.assertEqual(read_log(whole), ENTRIES[:at // 3])
            else:
                self.assertEqual(self.at(whole), at)
            # Without the line feed at the end.
            self.assertEqual(self.at(whole + rows[at]), at)
            self.assertEqual(self.at(whole + "?"), at)
            self.assertEqual(self.at(whole + ">"), at)
        self.assertEqual(self.at(WRITTEN + "\n"), 18)
        self.assertEqual(self.at("\n" + WRITTEN), 0)
        self.assertEqual(self.at("\n"), 0)
        self.assertEqual(self.at("x"), 0)
        self.assertEqual(self.at("> a\n= done "), 1)
        self.assertEqual(self.at("> a\nx\n= done "), 1)

    def test_values_that_are_no_strings(self):
        for value in (None, True, 0, (), [], ENTRIES, b"", nested(60, list)):
            self.assertEqual(self.pure_raises(NoText, read_log, value).at, 0)

    def test_malformed(self):
        good = ("x", ("done", "", ()))
        line, reply = good
        for entry in ODD_VALUES + (
                list(good), good + ((),), (line,), (line, list(reply)), (line, reply[:2]),
                (line, reply + ((),)), (line, None), (None, reply), (5, reply), ("a\nb", reply),
                ("\n", reply), (("x",), reply), (line, ("", "", ())), (line, ("Done", "", ())),
                (line, ("abcdefghijklm", "", ())), (line, (None, "", ())), (line, (1, "", ())),
                (line, ("a b", "", ())), (line, ("done", None, ())), (line, ("done", "\n", ())),
                (line, ("done", 1, ())), (line, ("done", "", [])), (line, ("done", "", None)),
                (line, ("done", "", True)), (line, ("done", "", (1, True))),
                (line, ("done", "", "two words")), (line, ("done", "", nested(61, tuple)))):
            for entries in ([entry], [good, entry], [entry, good]):
                self.pure_raises(Malformed, write_log, entries)
        self.assertEqual(write_log([(line, ("done", "", nested(60, tuple)))])[-2:], ")\n")


class FirstWrong(PureCase):
    LINES = ("let f = x + 1", "derive f^2", "let f = f*exp(x)", "", "integrate f", "derive g",
             "let g = f/x^3", "equal f ; x*exp(x) + exp(x)", "integrate exp(x)/x", "# end",
             "integrate g")

    def entries(self):
        console = Console()
        for line in self.LINES:
            console.enter(line)
        return console.entries()

    def test_the_example(self):
        entries = [("let f = x", ("done", "", ())), ("equal f ; 2*f", ("equal", "yes", ()))]
        self.assertEqual(self.pure(first_wrong, entries), 1)

    def test_right_ones(self):
        entries = self.entries()
        self.assertEqual(self.pure(first_wrong, entries), -1)
        self.assertEqual(first_wrong(entries[:4]), -1)
        self.assertEqual(self.pure(first_wrong, []), -1)

    def test_a_wrong_one_at_each_place(self):
        entries = self.entries()
        for at, (line, reply) in enumerate(entries):
            for other in ((line, ("done", "no", ())), None, (line,), (line, None), [line, reply],
                          (line, reply[:2] + ((reply[2],),)), ("derive x^7", reply)):
                wrong = entries[:at] + [other] + entries[at + 1:]
                self.assertEqual(self.pure(first_wrong, wrong), at)
                self.assertEqual(first_wrong(wrong + [None]), at)

    def test_definitions_count_in_their_order(self):
        entries = self.entries()
        # Without the second definition the integral is of another element.
        self.assertEqual(first_wrong(entries[:2] + entries[3:]), 3)
        self.assertEqual(first_wrong(entries[1:]), 0)
        # Other lines may be left out.
        left = [entries[k] for k in (0, 2, 4, 6, 10)]
        self.assertEqual(first_wrong(left), -1)
        # A definition with an error changes nothing.
        for line in ("let f = 1/", "let f = unknown", "let x = 2", "let f = x = 1"):
            entry = (line, reply_to({"f": "x"}, line))
            self.assertEqual(entry[1][0], "error")
            self.assertEqual(first_wrong([("let f = x", ("done", "", ())), entry,
                                          ("equal f ; x", ("equal", "yes", ()))]), -1)


if __name__ == "__main__":
    unittest.main()
