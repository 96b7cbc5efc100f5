"""Chapter 4: reading and writing expressions, points 4.3 to 4.6."""

import ast
import random
import unittest

from integraph.errors import NoText
from integraph.expressions import count, depth, differentiate, is_expression, substitute
from integraph.printing import parse, plain, show
from tests import trees
from tests.helpers import PureCase
from tests.test_words import expected_tokens
from tests.trees import BINARY, UNARY, X, chain, chance_trees, num

NODES_OF_PYTHON = {ast.Add: "add", ast.Sub: "sub", ast.Mult: "mul", ast.Div: "div"}


def read_by_python(text):
    """Returns the expression of a text that follows the grammar, as Python itself reads it."""
    return from_python(ast.parse(text.strip().replace("^", "**"), mode="eval").body)


def from_python(node):
    if isinstance(node, ast.Constant):
        return ("num", node.value, 1)
    if isinstance(node, ast.Name):
        return (node.id,)
    if isinstance(node, ast.Call):
        return (node.func.id, from_python(node.args[0]))
    if isinstance(node, ast.UnaryOp):
        return ("neg", from_python(node.operand))
    if isinstance(node.op, ast.Pow):
        k = node.right
        k = -k.operand.value if isinstance(k, ast.UnaryOp) else k.value
        return ("pow", from_python(node.left), k)
    return (NODES_OF_PYTHON[type(node.op)], from_python(node.left), from_python(node.right))


def first_fault(text):
    """Returns the index of the fault that point 4.4 names, or None if there is none.

    A machine with one counter: what may stand at a place depends on what stands before it.
    """
    row, stop = expected_tokens(text), None
    if isinstance(row, int):
        row, stop = expected_tokens(text[:row])[:-1], row
    state, level, minuses = "operand", 0, 0
    for kind, value, at in row:
        if kind == "end":
            return None if state in ("atom", "power") and level == 0 else at
        if state in ("operand", "call") and value == "(" and level < 60:
            state, level, minuses = "operand", level + 1, 0
        elif state == "operand" and value == "-" and minuses < 40:
            minuses += 1
        elif state == "operand" and (kind == "number" or value == "x"):
            state = "atom"
        elif state == "operand" and kind == "word":
            state = "call"
        elif state in ("atom", "power") and kind == "sign" and value in "+-*/":
            state, minuses = "operand", 0
        elif state in ("atom", "power") and value == ")" and level > 0:
            state, level = "atom", level - 1
        elif state == "atom" and value == "^":
            state = "exponent"
        elif state == "exponent" and value == "-":
            state = "number"
        elif state in ("exponent", "number") and kind == "number" and value <= 30:
            state = "power"
        else:
            return at
    return stop


class TextCase(PureCase):
    def reads(self, text, expected):
        self.assertEqual(self.pure(parse, text), expected, text)

    def refused(self, text, at):
        error = self.pure_raises(NoText, parse, text)
        self.assertEqual((type(error.at), error.at), (int, at), text)

    def check(self, text):
        """Compares with the machine, with Python and with the measures."""
        at = first_fault(text)
        if at is not None:
            self.refused(text, at)
            return
        e = read_by_python(text)
        if trees.is_small(e):
            self.reads(text, e)
        else:
            self.refused(text, len(text))


class Grammar(TextCase):
    def test_the_examples(self):
        self.reads("1 + 2*x^2", ("add", num(1), ("mul", num(2), ("pow", X, 2))))
        self.reads("-x^2", ("neg", ("pow", X, 2)))
        self.refused("2x", 1)
        self.refused("x^2^3", 3)

    def test_atoms(self):
        self.reads("0", num(0))
        self.reads("12", num(12))
        self.reads("x", X)
        self.reads("exp(x)", ("exp", X))
        self.reads("log(x)", ("log", X))
        self.reads("(x)", X)
        self.reads("((7))", num(7))
        self.reads("exp((x))", ("exp", X))
        self.reads("log(exp(1))", ("log", ("exp", num(1))))

    def test_each_operator(self):
        for sign, word in (("+", "add"), ("-", "sub"), ("*", "mul"), ("/", "div")):
            self.reads("x" + sign + "2", (word, X, num(2)))
            self.reads("2 " + sign + " x", (word, num(2), X))

    def test_operators_of_one_line_associate_to_the_left(self):
        for one, first in (("+", "add"), ("-", "sub")):
            for two, second in (("+", "add"), ("-", "sub")):
                self.reads("1" + one + "2" + two + "3", (second, (first, num(1), num(2)), num(3)))
        for one, first in (("*", "mul"), ("/", "div")):
            for two, second in (("*", "mul"), ("/", "div")):
                self.reads("1" + one + "2" + two + "3", (second, (first, num(1), num(2)), num(3)))

    def test_products_stand_before_sums(self):
        self.reads("1+2*x", ("add", num(1), ("mul", num(2), X)))
        self.reads("1*2+x", ("add", ("mul", num(1), num(2)), X))
        self.reads("1-2/x-3", ("sub", ("sub", num(1), ("div", num(2), X)), num(3)))
        self.reads("(1+2)*x", ("mul", ("add", num(1), num(2)), X))
        self.reads("1-(2-x)", ("sub", num(1), ("sub", num(2), X)))
        self.reads("1/(2/x)", ("div", num(1), ("div", num(2), X)))

    def test_minus_before_factors(self):
        self.reads("-x", ("neg", X))
        self.reads("--x", ("neg", ("neg", X)))
        self.reads("- - x", ("neg", ("neg", X)))
        self.reads("-1", ("neg", num(1)))
        self.reads("-1/2", ("div", ("neg", num(1)), num(2)))
        self.reads("-x*2", ("mul", ("neg", X), num(2)))
        self.reads("x*-2", ("mul", X, ("neg", num(2))))
        self.reads("x--2", ("sub", X, ("neg", num(2))))
        self.reads("x+-2", ("add", X, ("neg", num(2))))
        self.reads("-(x+1)", ("neg", ("add", X, num(1))))
        self.reads("-x+1", ("add", ("neg", X), num(1)))
        self.reads("-exp(-x)", ("neg", ("exp", ("neg", X))))
        self.reads("-x^-2", ("neg", ("pow", X, -2)))
        self.reads("(-x)^2", ("pow", ("neg", X), 2))

    def test_powers(self):
        for k in (0, 1, 2, 29, 30):
            self.reads("x^" + str(k), ("pow", X, k))
            self.reads("x^-" + str(k), ("pow", X, -k))
            self.reads("x ^ - " + str(k), ("pow", X, -k))
        self.reads("2^3", ("pow", num(2), 3))
        self.reads("(x)^2", ("pow", X, 2))
        self.reads("(x+1)^2", ("pow", ("add", X, num(1)), 2))
        self.reads("exp(x)^2", ("pow", ("exp", X), 2))
        self.reads("log(x)^-2*x", ("mul", ("pow", ("log", X), -2), X))
        self.reads("(x^2)^3", ("pow", ("pow", X, 2), 3))
        self.reads("x^2-3", ("sub", ("pow", X, 2), num(3)))

    def test_spaces(self):
        e = ("add", num(1), ("mul", num(2), ("exp", X)))
        for text in ("1+2*exp(x)", " 1 + 2 * exp ( x ) ", "1+2*exp (x)", "   1+2*exp(x)",
                     "1+2*exp(x)   "):
            self.reads(text, e)
        self.refused("1 2", 2)
        self.refused("x x", 2)
        self.refused("e xp(x)", 0)

    def test_long_numbers(self):
        self.reads("9" * 100, ("num", int("9" * 100), 1))
        self.refused("9" * 101, 0)
        self.refused("x + " + "9" * 101, 4)

    def test_every_short_text(self):
        pieces = ("x", "2", "-", "+", "*", "^", "(", ")", "log")
        texts = [""]
        for _ in range(5):
            texts = [text + piece for text in texts for piece in pieces]
            for text in texts if len(texts) < 10000 else texts[::7]:
                if first_fault(text) is None:
                    self.assertEqual(parse(text), read_by_python(text))
                else:
                    with self.assertRaises(NoText) as caught:
                        parse(text)
                    self.assertEqual(caught.exception.at, first_fault(text), text)

    def test_chance_texts(self):
        chance = random.Random(6)
        pieces = ["x", "exp(", "log(", "0", "7", "30", "31", "(", ")", "+", "-", "*", "/", "^",
                  "^-", " ", "x^2", "007", "xx", "%", ")", "x"]
        for _ in range(6000):
            self.check("".join(chance.choice(pieces) for _ in range(chance.randint(1, 9))))

    def test_chance_texts_that_follow_the_grammar(self):
        for e in chance_trees(13, 400, 6):
            text = show(e)
            self.check(text)
            self.check(text.replace(" ", ""))
            self.check(text.replace("(", " ( ").replace("^", " ^ "))
            self.check(text[:-1])
            self.check(text[1:])
            self.check(text[:len(text) // 2] + text[len(text) // 2 + 1:])


class Places(TextCase):
    def test_texts_that_end_too_early(self):
        for text in ("", " ", "    ", "-", "1+", "1 + ", "x*", "x/", "x^", "x^-", "exp", "log ", "(",
                     "exp(", "(x", "log(x", "((x)", "x + (2*", "1 - -", "exp(x + "):
            self.refused(text, len(text))

    def test_a_token_that_cannot_stand_at_its_place(self):
        for text, at in (
                (")", 0), ("+", 0), ("*x", 0), ("^2", 0), ("x)", 1), ("(x))", 3), ("()", 1),
                ("exp()", 4), ("exp x", 4), ("exp2", 3), ("log-x", 3), ("expexp", 0), ("x+*2", 2),
                ("x**2", 2), ("x*/2", 2), ("x+", 2), ("x(2)", 1), ("(x)(x)", 3), ("2(x)", 1),
                ("x exp(x)", 2), ("x^x", 2), ("x^(2)", 2), ("x^--2", 3), ("x^+2", 2), ("x^exp", 2),
                ("x^2^2", 3), ("x^2 3", 4), ("x^-x", 3), ("(x+)", 3), ("1 + ) + %", 4),
                ("exp(x", 5), ("exp)", 3), ("x -", 3), ("x - * 2", 4)):
            self.refused(text, at)

    def test_characters_and_words_that_begin_no_token(self):
        for mark in "%XA~_.,=;#\n\t\\'\"\x00\x7f\xe4\xb2\u0661\u2212\uff11":
            self.refused(mark, 0)
            self.refused("x" + mark, 1)
            self.refused("x + " + mark, 4)
            self.refused("x^" + mark, 2)
            self.refused("exp" + mark, 3)
            self.refused("(x" + mark, 2)
        for word in ("xx", "expx", "e", "sin", "logx"):
            self.refused(word + "(x)", 0)
            self.refused("1 + " + word, 4)
            self.refused("x^" + word, 2)

    def test_numbers(self):
        self.refused("01", 0)
        self.refused("x + 007", 4)
        self.refused("x^02", 2)
        self.refused("x^-00", 3)

    def test_exponents(self):
        for k in (31, 32, 100, 10 ** 99, 10 ** 100, 10 ** 150):
            self.refused("x^" + str(k), 2)
            self.refused("x^-" + str(k), 3)
            self.refused("x ^ - " + str(k), 6)
            self.refused("x^" + str(k) + " + %", 2)
            self.refused("exp(x)^" + str(k) + ")", 7)

    def test_what_comes_first_from_the_left_decides(self):
        self.refused("x x %", 2)
        self.refused("% x x", 0)
        self.refused("x + xx + * 2", 4)
        self.refused("x + * xx", 4)
        self.refused("x^31 007", 2)
        self.refused("(x + 007", 5)
        self.refused("() %", 1)
        self.refused("x^ % ^", 3)
        self.refused("x %", 2)
        self.refused("(x %", 3)

    def test_sixty_parentheses(self):
        self.check("(" * 60 + "x" + ")" * 60)
        self.reads("(" * 60 + "x" + ")" * 60, X)
        self.refused("(" * 61 + "x" + ")" * 61, 60)
        self.refused("(" * 61, 60)
        self.refused("(" * 60, 60)
        self.refused("(" * 60 + "x" + ")" * 61, 121)
        self.refused("x + " + "( " * 61, 4 + 120)

    def test_closed_parentheses_do_not_count(self):
        self.reads("(x)*(x)", ("mul", X, X))
        text = "+".join(["(x)"] * 30)
        self.reads(text, read_by_python(text))
        self.reads("(" * 59 + "(x)+(2)" + ")" * 59, ("add", X, num(2)))
        self.refused("(" * 59 + "(x)+((2))" + ")" * 59, 64)

    def test_parentheses_of_functions_count(self):
        self.reads("(" * 59 + "exp(x)" + ")" * 59, ("exp", X))
        self.refused("(" * 60 + "exp(x)" + ")" * 60, 63)
        self.refused("(" * 60 + "log  (x)", 65)
        self.refused("(" * 60 + "exp x", 64)
        self.refused("exp(" * 61 + "x" + ")" * 61, 4 * 61 - 1)
        # 60 at once are allowed; the expression alone is too deep then.
        self.refused("exp(" * 60 + "x" + ")" * 60, 301)
        self.reads("exp(" * 39 + "x" + ")" * 39, chain("exp", 40))

    def test_forty_minuses(self):
        self.reads("-" * 39 + "x", chain("neg", 40))
        self.refused("-" * 40 + "x", 41)
        self.refused("-" * 41 + "x", 40)
        self.refused("-" * 41, 40)
        self.refused("-" * 40, 40)
        self.refused("x*" + "-" * 41 + "x", 42)
        self.refused("x^" + "-" * 2 + "1", 3)

    def test_which_minuses_stand_in_a_row(self):
        self.refused("- " * 41 + "x", 80)
        self.refused("- " * 40 + "x", 81)
        # The first one is that of a difference.
        self.refused("x" + "-" * 42 + "x", 42)
        self.refused("x" + "-" * 41 + "x", 43)
        self.reads("x" + "-" * 39 + "x", ("sub", X, chain("neg", 39)))
        # A parenthesis ends a row.
        self.refused("-" * 40 + "(" + "-" * 41 + "x", 81)
        self.refused("-" * 40 + "(" + "-" * 40 + "x)", 83)
        self.reads("-" * 20 + "(" + "-" * 19 + "x)", chain("neg", 40))

    def test_many_minuses_within_many_parentheses(self):
        text = ("-" * 40 + "(") * 60 + "x" + ")" * 60
        self.refused(text, len(text))
        text = ("-" * 40 + "exp(") * 60 + "-" * 41
        self.refused(text, len(text) - 1)


class NotSmall(TextCase):
    def test_the_count(self):
        # n times x has 2 n - 1 nodes: the depth is kept low by parentheses.
        def balanced(n):
            if n == 1:
                return "x"
            return "(" + balanced(n // 2) + "+" + balanced(n - n // 2) + ")"
        self.reads(balanced(150), read_by_python(balanced(150)))
        self.refused(balanced(151), len(balanced(151)))
        self.reads("-" + balanced(150), read_by_python("-" + balanced(150)))
        self.refused("--" + balanced(150), len(balanced(150)) + 2)

    def test_the_depth(self):
        self.reads("+".join(["x"] * 40), chain("add", 40))
        self.refused("+".join(["x"] * 41), 81)
        self.refused("+".join(["x"] * 41) + "  ", 83)

    def test_the_weight(self):
        # Three numbers of 101, one of 94, and three products.
        text = "*".join(["9" * 100] * 3 + ["9" * 93])
        self.reads(text, read_by_python(text))
        self.refused(text + "9", len(text) + 1)
        # 1 + 19 times 21, and with one node more.
        self.reads("10000000000000000000^19", ("pow", num(10 ** 19), 19))
        self.refused("(10000000000000000000^19)^1", 27)
        self.refused("10000000000000000000^-20", 24)

    def test_faults_come_before_the_size(self):
        text = "+".join(["x"] * 400)
        self.refused(text + "+", len(text) + 1)
        self.refused(text + "%", len(text))
        self.refused(text + ")", len(text))
        self.refused("(" + text, len(text) + 1)

    def test_texts_of_any_length(self):
        self.reads(" " * 5000 + "x" + " " * 5000, X)
        text = "(" * 50 + " " * 4000 + "x" + ")" * 50
        self.reads(text, X)
        self.reads("x + " + " " * 4000 + "1", ("add", X, num(1)))
        self.refused(" " * 5000, 5000)
        self.refused("x" + " " * 5000 + "x", 5001)

    def test_very_long_texts(self):
        for piece in ("x+", "x*", "-x-", "x^2/", "(x)*"):
            text = piece * 20000 + "x"
            self.refused(text, len(text))
            self.refused(text + "!", len(text))


class Plain(PureCase):
    def test_numbers(self):
        for e, expected in (
                (num(0), num(0)), (num(7), num(7)), (num(-7), ("neg", num(7))),
                (num(1, 2), ("div", num(1), num(2))),
                (num(-1, 2), ("div", ("neg", num(1)), num(2))),
                (num(10 ** 30, 7), ("div", num(10 ** 30), num(7)))):
            self.assertEqual(self.pure(plain, e), expected)

    def test_other_nodes_stay(self):
        a, b = num(-3), num(2, 5)
        p, r = ("neg", num(3)), ("div", num(2), num(5))
        self.assertEqual(plain(X), X)
        for word in BINARY:
            self.assertEqual(self.pure(plain, (word, a, b)), (word, p, r))
            self.assertEqual(plain((word, X, a)), (word, X, p))
        for word in UNARY:
            self.assertEqual(self.pure(plain, (word, a)), (word, p))
        for k in (-30, 0, 30):
            self.assertEqual(self.pure(plain, ("pow", b, k)), ("pow", r, k))
        self.assertEqual(plain(("neg", a)), ("neg", p))

    def test_what_it_leaves(self):
        for e in chance_trees(21, 400):
            result = plain(e)
            self.assertEqual(plain(result), result)
            self.assert_no_other_numbers(result)

    def assert_no_other_numbers(self, e):
        if e[0] == "num":
            self.assertEqual((e[1] >= 0, e[2]), (True, 1))
        for a in trees.operands(e):
            self.assert_no_other_numbers(a)


def slow_text(e):
    """The text of a plain form, by point 4.6."""
    def within(a, barred):
        return "(" + slow_text(a) + ")" if barred else slow_text(a)

    word, sums, products = e[0], ("add", "sub"), ("mul", "div")
    if word == "num":
        return str(e[1])
    if word == "x":
        return "x"
    if word in ("exp", "log"):
        return word + "(" + slow_text(e[1]) + ")"
    a = e[1]
    if word == "neg":
        return "-" + within(a, a[0] in sums + products)
    if word == "pow":
        return within(a, a[0] not in ("num", "x", "exp", "log")) + "^" + str(e[2])
    b = e[2]
    if word in sums:
        return slow_text(a) + {"add": " + ", "sub": " - "}[word] + within(b, b[0] in sums)
    sign = {"mul": "*", "div": "/"}[word]
    return within(a, a[0] in sums) + sign + within(b, b[0] in sums + products)


class Show(PureCase):
    def test_the_examples(self):
        self.assertEqual(show(("sub", ("x",), ("sub", ("num", -1, 2), ("x",)))), "x - (-1/2 - x)")
        self.assertEqual(show(("pow", ("neg", ("x",)), -2)), "(-x)^-2")

    def test_numbers(self):
        for e, text in ((num(0), "0"), (num(12), "12"), (num(-12), "-12"), (num(1, 2), "1/2"),
                        (num(-1, 2), "-1/2"), (num(10 ** 5000), "1" + "0" * 5000)):
            self.assertEqual(self.pure(show, e), text)

    def test_each_node(self):
        a, b = num(2), X
        for e, text in ((X, "x"), (("add", a, b), "2 + x"), (("sub", a, b), "2 - x"),
                        (("mul", a, b), "2*x"), (("div", a, b), "2/x"), (("neg", b), "-x"),
                        (("pow", b, 3), "x^3"), (("pow", b, -30), "x^-30"), (("pow", b, 0), "x^0"),
                        (("exp", b), "exp(x)"), (("log", a), "log(2)")):
            self.assertEqual(self.pure(show, e), text)

    def test_each_case_of_parentheses(self):
        operands = {"num": num(2), "x": X, "add": ("add", X, num(1)), "sub": ("sub", X, num(1)),
                    "mul": ("mul", X, num(3)), "div": ("div", X, num(3)), "neg": ("neg", X),
                    "pow": ("pow", X, 2), "exp": ("exp", X), "log": ("log", X)}
        texts = {"num": "2", "x": "x", "add": "x + 1", "sub": "x - 1", "mul": "x*3", "div": "x/3",
                 "neg": "-x", "pow": "x^2", "exp": "exp(x)", "log": "log(x)"}
        sums, products = ("add", "sub"), ("mul", "div")
        signs = {"add": " + ", "sub": " - ", "mul": "*", "div": "/"}
        left = {"add": (), "sub": (), "mul": sums, "div": sums}
        right = {"add": sums, "sub": sums, "mul": sums + products, "div": sums + products}
        for word, e in operands.items():
            text, closed = texts[word], "(" + texts[word] + ")"
            for outer in BINARY:
                self.assertEqual(show((outer, e, num(5))),
                                 (closed if word in left[outer] else text) + signs[outer] + "5")
                self.assertEqual(show((outer, num(5), e)),
                                 "5" + signs[outer] + (closed if word in right[outer] else text))
            self.assertEqual(show(("neg", e)),
                             "-" + (closed if word in sums + products else text))
            bare = ("num", "x", "exp", "log")
            self.assertEqual(show(("pow", e, 4)), (text if word in bare else closed) + "^4")
            self.assertEqual(show(("exp", e)), "exp(" + text + ")")
            self.assertEqual(show(("log", e)), "log(" + text + ")")

    def test_numbers_stand_as_their_plain_forms(self):
        half = num(-1, 2)
        for e, text in ((("pow", half, 2), "(-1/2)^2"), (("pow", num(-2), 2), "(-2)^2"),
                        (("mul", X, half), "x*(-1/2)"), (("mul", half, X), "-1/2*x"),
                        (("div", X, num(1, 3)), "x/(1/3)"), (("neg", num(1, 3)), "-(1/3)"),
                        (("neg", num(-3)), "--3"), (("mul", X, num(-3)), "x*-3"),
                        (("sub", X, num(-3)), "x - -3"), (("add", X, half), "x + -1/2"),
                        (("exp", half), "exp(-1/2)")):
            self.assertEqual(self.pure(show, e), text)

    def test_all(self):
        for e in chance_trees(31, 600, 8):
            self.assertEqual(self.pure(show, e), slow_text(plain(e)))

    def test_reading_back(self):
        read = 0
        for e in chance_trees(37, 1500, 8):
            text = show(e)
            if is_expression(plain(e)) and len(text) <= 4000:
                self.assertEqual(parse(text), plain(e))
                read += 1
        self.assertGreater(read, 800)

    def test_reading_back_chains(self):
        for word in BINARY + UNARY + ("pow",):
            e = chain(word, 40)
            self.assertEqual(parse(show(e)), e)
            if word in BINARY:
                for other in BINARY:
                    mixed = X
                    for k in range(38):
                        mixed = (word, X, mixed) if k % 2 else (other, mixed, X)
                    self.assertEqual(parse(show(mixed)), mixed)

    def test_expressions_that_are_not_small(self):
        for word in BINARY + UNARY + ("pow",):
            e = chain(word, 200)
            self.assertEqual(self.pure(plain, e), e)
            self.assertEqual(show(e), slow_text(e))
        e = substitute(chain("mul", 100), num(-1, 3))
        self.assertEqual(show(e), slow_text(plain(e)))
        derivative = differentiate(chain("div", 60))
        self.assertEqual(show(derivative), slow_text(plain(derivative)))

    def test_the_depth_of_200_with_numbers_that_make_it_deeper(self):
        e = chain("sub", 200, num(-1, 2))
        self.assertEqual(depth(plain(e)), 202)
        self.assertEqual(count(plain(e)), count(e) + 3)
        self.assertEqual(show(e), "-1/2" + " - x" * 199)

    def test_sums_of_many_terms(self):
        e = chain("add", 5000)
        self.assertEqual(show(e), " + ".join(["x"] * 5000))


if __name__ == "__main__":
    unittest.main()
