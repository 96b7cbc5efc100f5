"""Chapter 4: the tokens of a text, points 4.3 and 4.4."""

import random
import re
import unittest

from integraph.errors import NoText
from integraph.words import tokens
from tests.helpers import PureCase

TOKEN = re.compile(r" *(?:([0-9]+)|([a-z]+)|([-+*/^()]))")


def expected_tokens(text):
    """Returns the tokens, or the index of the first character that begins none."""
    found, at = [], 0
    while text[at:].strip(" "):
        match = TOKEN.match(text, at)
        start = len(text) - len(text[at:].lstrip(" "))
        if match is None:
            return start
        number, word, sign = match.groups()
        if number is not None:
            if len(number) > 100 or number != "0" and number.startswith("0"):
                return start
            found.append(("number", int(number), start))
        elif word is not None:
            if word not in ("x", "exp", "log"):
                return start
            found.append(("word", word, start))
        else:
            found.append(("sign", sign, start))
        at = match.end()
    return found + [("end", "", len(text))]


class TokenCase(PureCase):
    def read(self, text):
        """The tokens: a list of tuples; the second call gives the same."""
        first = tokens(text)
        self.assertIs(type(first), list)
        for token in first:
            self.assert_plain(token)
            self.assertEqual((type(token), len(token)), (tuple, 3))
        self.assertEqual(tokens(text), first)
        return first

    def refused(self, text, at):
        error = self.pure_raises(NoText, tokens, text)
        self.assertEqual((type(error.at), error.at), (int, at), text)


class Kinds(TokenCase):
    def test_numbers(self):
        for text, value in (("0", 0), ("7", 7), ("10", 10), ("907", 907)):
            self.assertEqual(self.read(text), [("number", value, 0), ("end", "", len(text))])

    def test_words(self):
        for word in ("x", "exp", "log"):
            self.assertEqual(self.read(word), [("word", word, 0), ("end", "", len(word))])

    def test_signs(self):
        for sign in "+-*/^()":
            self.assertEqual(self.read(sign), [("sign", sign, 0), ("end", "", 1)])
        self.assertEqual(self.read("--"), [("sign", "-", 0), ("sign", "-", 1), ("end", "", 2)])
        self.assertEqual(self.read("**"), [("sign", "*", 0), ("sign", "*", 1), ("end", "", 2)])

    def test_the_end(self):
        self.assertEqual(self.read(""), [("end", "", 0)])
        self.assertEqual(self.read("   "), [("end", "", 3)])
        self.assertEqual(self.read("x  "), [("word", "x", 0), ("end", "", 3)])

    def test_a_text_with_every_kind(self):
        self.assertEqual(self.read(" 12*x - exp(0)^log "), [
            ("number", 12, 1), ("sign", "*", 3), ("word", "x", 4), ("sign", "-", 6),
            ("word", "exp", 8), ("sign", "(", 11), ("number", 0, 12), ("sign", ")", 13),
            ("sign", "^", 14), ("word", "log", 15), ("end", "", 19)])

    def test_numbers_beside_words(self):
        self.assertEqual(self.read("2x"), [("number", 2, 0), ("word", "x", 1), ("end", "", 2)])
        self.assertEqual(self.read("x2"), [("word", "x", 0), ("number", 2, 1), ("end", "", 2)])
        self.assertEqual(self.read("0exp10"), [
            ("number", 0, 0), ("word", "exp", 1), ("number", 10, 4), ("end", "", 6)])
        self.assertEqual(self.read("x x"), [("word", "x", 0), ("word", "x", 2), ("end", "", 3)])
        self.assertEqual(self.read("0 7"), [("number", 0, 0), ("number", 7, 2), ("end", "", 3)])

    def test_a_new_list_each_time(self):
        first = tokens("x")
        first.append("more")
        self.assertEqual(tokens("x"), [("word", "x", 0), ("end", "", 1)])


class Refusals(TokenCase):
    def test_characters(self):
        for code in list(range(0, 128)) + [0xe4, 0xb2, 0x661, 0x3c0, 0x2212, 0xff11, 0x1f600]:
            mark = chr(code)
            if mark not in " +-*/^()x0123456789":
                self.refused(mark, 0)
                self.refused("x " + mark + " x", 2)
                self.refused("12" + mark, 2)
        for mark in "%XA\n\t~_.,=;#\\'\"":
            self.refused("x+" + mark, 2)

    def test_words(self):
        for word in ("xx", "expx", "xexp", "logx", "ex", "ln", "e", "a", "exponent", "lo", "xlog"):
            self.refused(word, 0)
            self.refused("x + " + word + "(x)", 4)
            self.refused("2" + word, 1)

    def test_capital_letters(self):
        self.refused("X", 0)
        self.refused("Exp", 0)
        self.refused("exP", 0)
        self.refused("xX", 1)
        self.refused("expX", 3)

    def test_leading_zeros(self):
        for text in ("00", "01", "007", "0123456789"):
            self.refused(text, 0)
            self.refused("x^" + text, 2)
        self.refused("1 + 00", 4)

    def test_long_numbers(self):
        for digits in (99, 100):
            text = "9" * digits
            self.assertEqual(self.read(text), [("number", int(text), 0), ("end", "", digits)])
            self.assertEqual(self.read("x" + text + "x")[1], ("number", int(text), 1))
        for digits in (101, 102, 1000, 5000):
            self.refused("9" * digits, 0)
            self.refused("x " + "1" + "0" * (digits - 1), 2)
        self.refused("0" + "1" * 100, 0)

    def test_the_first_one_counts(self):
        self.refused("x % X", 2)
        self.refused("x xx 007 %", 2)
        self.refused("00 xx", 0)


class Every(TokenCase):
    def test_chance_texts(self):
        chance = random.Random(4)
        pieces = ["x", "exp", "log", "0", "7", "12", "007", "9" * 100, "9" * 101, "+", "-", "*", "/",
                  "^", "(", ")", " ", "  ", "ab", "%", "X", "\n"]
        for _ in range(3000):
            text = "".join(chance.choice(pieces) for _ in range(chance.randint(0, 8)))
            expected = expected_tokens(text)
            if isinstance(expected, int):
                self.refused(text, expected)
            else:
                self.assertEqual(self.read(text), expected)

    def test_a_long_text(self):
        text = "x + " * 5000 + "1"
        found = self.read(text)
        self.assertEqual(len(found), 10002)
        self.assertEqual(found[-2:], [("number", 1, 20000), ("end", "", 20001)])


if __name__ == "__main__":
    unittest.main()
