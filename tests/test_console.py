"""Chapter 15, points 15.4, 15.6 and 15.7: the console."""

import unittest

from integraph.console import Console, reply_to
from integraph.errors import NoText, Refused, TooLarge
from integraph.log import first_wrong, read_log, write_log
from integraph.replies import is_right
from integraph.sheet import full_text
from tests.helpers import PureCase, nested, picture

SHEET = (
    "# integrals of some functions", "let f = x*log(x)", "derive f", "integrate f", "",
    "let f = exp(f)", "integrate f", "integrate f*(log(x) + 1)", "derive h", "let h = x - x",
    "derive 1/h", "let h = h + 1", "integrate f*h/x", "equal h ; 1", "equal h ;", "let x = 1",
    "let g = h/(x^2 + 1)", "integrate g", "integrate g*log(x)", "integrate (", "derive f*g",
    "equal f*g ; f/(1 + x^2)", "equal g ; f", "derive exp(x + 1)", "let f = 2", "integrate f/x")


def entered(lines):
    console = Console()
    for line in lines:
        console.enter(line)
    return console


class Replies(PureCase):
    def test_the_examples(self):
        self.assertEqual(Console().enter("let f = 2*x"), ("done", "", ()))
        self.assertEqual(self.pure(reply_to, {}, "equal exp(2*x) ; exp(x)^2"),
                         ("equal", "yes", ()))
        self.assertEqual(self.pure(reply_to, {}, "derive 1/(x - x)"),
                         ("error", "refused zero", ()))

    def test_each_kind(self):
        names = {"f": "x^2"}
        for line, kind, text in (
                ("let g = f", "done", ""), ("", "done", ""), ("# f", "done", ""),
                ("derive f", "element", "2*x"), ("integrate f", "answer", "1/3*x^3"),
                ("integrate 2*x/(f + 1)", "answer", "roots(-1, 1; x^2 + 1)"),
                ("integrate exp(f)", "none", "none"), ("equal f ; x*x", "equal", "yes"),
                ("equal f ; x", "equal", "no"), ("derive 2f", "error", "text 7"),
                ("derive g", "error", "refused name"),
                ("derive exp(25*log(x) + x)", "error", "large power")):
            reply = self.pure(reply_to, names, line)
            self.assertEqual(reply[:2], (kind, text), line)
            self.assertEqual(len(reply), 3)
            if kind in ("done", "equal", "error"):
                self.assertEqual(reply[2], ())
            self.assert_true(is_right(names, (line, reply)))
        self.assertEqual(names, {"f": "x^2"})

    def test_values_that_are_no_lines(self):
        for line in (None, 5, True, (), ["derive x"], nested(60, tuple), "derive x\n", "x" * 2001):
            self.assertEqual(self.pure(reply_to, {}, line), ("error", "text 0", ()))


class Consoles(PureCase):
    def test_entries_are_lines_with_their_replies(self):
        console = Console()
        self.assertEqual((console.entries(), console.names()), ([], {}))
        names = {}
        wanted = []
        for line in SHEET:
            reply = console.enter(line)
            self.assertEqual(reply, reply_to(names, line))
            wanted.append((line, reply))
            if line.startswith("let") and reply[0] == "done":
                name, _, text = line[4:].partition(" = ")
                names[name] = full_text(names, text)
            self.assertEqual(console.entries(), wanted)
            self.assertEqual(console.names(), names)
        self.assertEqual({reply[0] for _, reply in wanted},
                         {"done", "element", "answer", "none", "equal", "error"})

    def test_a_definition_may_use_its_own_name(self):
        console = entered(["let f = x", "let f = f + 1", "let f = f*f"])
        self.assertEqual(console.names(), {"f": "((x) + 1)*((x) + 1)"})
        self.assertEqual(console.enter("equal f ; x^2 + 2*x + 1"), ("equal", "yes", ()))

    def test_definitions_keep_the_meanings_of_their_time(self):
        console = entered(["let f = x", "let g = f", "let f = x^2"])
        self.assertEqual(console.names(), {"f": "x^2", "g": "(x)"})
        self.assertEqual(console.enter("equal g ; x"), ("equal", "yes", ()))

    def test_errors_change_no_definition(self):
        console = entered(["let f = x"])
        for line in ("let f = )", "let f = g", "let x = f", "let f", "let f = f;", "derive f +",
                     "let f = x^31", "let f = x % 2", "let", None, "derive f", "integrate f",
                     "# let f = 2", "equal f ; f"):
            before = len(console.entries())
            reply = console.enter(line)
            self.assertEqual(console.names(), {"f": "x"})
            self.assertEqual(console.entries()[before:], [(line, reply)])

    def test_results_are_new_objects(self):
        console = entered(["let f = x"])
        console.entries().append(None)
        console.names()["g"] = "x"
        del console.names()["f"]
        self.assertEqual(console.names(), {"f": "x"})
        self.assertEqual(console.entries(), [("let f = x", ("done", "", ()))])
        self.assertIsNot(console.entries(), console.entries())
        self.assertIsNot(console.names(), console.names())
        kept = console.entries()
        names = console.names()
        console.enter("let g = f")
        self.assertEqual((len(kept), names), (1, {"f": "x"}))

    def test_two_consoles_share_nothing(self):
        one, two = Console(), Console()
        one.enter("let f = x")
        self.assertEqual(two.enter("derive f"), ("error", "refused name", ()))
        two.enter("let f = 1/x")
        self.assertEqual(one.enter("derive f")[1], "1")
        self.assertEqual(two.enter("derive f")[1], "-1/x^2")
        self.assertEqual((one.names(), two.names()), ({"f": "x"}, {"f": "1/x"}))
        self.assertEqual((len(one.entries()), len(two.entries())), (2, 3))

    def test_a_thousand_lines(self):
        console = Console()
        for k in range(1000):
            console.enter("let f = x" if k == 500 else ")" if k % 3 else "")
        before = picture([console.entries(), console.names()])
        for line in ("let g = x", "", ")", "derive x", None):
            with self.assertRaises(TooLarge) as caught:
                console.enter(line)
            self.assertEqual(caught.exception.what, "lines")
            self.assertEqual(picture([console.entries(), console.names()]), before)
        self.assertEqual(len(console.entries()), 1000)
        self.assertEqual(first_wrong(console.entries()), -1)

    def test_logs(self):
        console = entered(SHEET)
        written = write_log(console.entries())
        self.assertEqual(read_log(written), console.entries())
        self.assertEqual(first_wrong(read_log(written)), -1)
        self.assertEqual(written, write_log(entered(SHEET).entries()))

    def test_the_same_lines_give_the_same_replies(self):
        self.assertEqual(entered(SHEET).entries(), entered(SHEET).entries())


class FullTexts(PureCase):
    def test_definitions_replaced_by_their_full_texts(self):
        entries = entered(SHEET).entries()
        names = {}
        lines = []
        for line, reply in entries:
            lines.append(self.replaced(names, line))
            if line.startswith("let") and reply[0] == "done":
                name, _, text = line[4:].partition(" = ")
                names[name] = full_text(names, text)
        self.assertEqual(sum(line == "" for line in lines), 8)
        for (line, reply), new in zip(entries, entered(lines).entries()):
            if not line.startswith("let"):
                self.assertEqual(new[1], reply, line)

    def replaced(self, names, line):
        """Returns the line with full texts; one with a definition becomes empty."""
        word, _, rest = line.partition(" ")
        if word == "let":
            return ""
        if word not in ("derive", "integrate", "equal"):
            return line
        try:
            texts = [full_text(names, text.strip()) for text in rest.split(";")]
        except (NoText, Refused):
            return line
        return word + " " + " ; ".join(texts).rstrip()

    def test_lines_left_out(self):
        entries = entered(SHEET).entries()
        for step in (2, 3, 5):
            kept = [at for at, line in enumerate(SHEET)
                    if line.startswith("let") or at % step == 0]
            found = entered([SHEET[at] for at in kept]).entries()
            self.assertEqual(found, [entries[at] for at in kept])


if __name__ == "__main__":
    unittest.main()
