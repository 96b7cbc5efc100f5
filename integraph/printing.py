"""Texts of expressions: reading them, and writing them in their plain form."""

from integraph.errors import NoText
from integraph.expressions import MOST_POWER, fold, is_expression, with_operands
from integraph.rational import format_integer
from integraph.words import tokens

_NODE_OF_SIGN = {"+": "add", "-": "sub", "*": "mul", "/": "div"}
_TEXT_OF_NODE = {"add": " + ", "sub": " - ", "mul": "*", "div": "/"}

_SUMS = ("add", "sub")
_PRODUCTS = ("mul", "div")
_ATOMS = ("num", "x", "exp", "log")

_MOST_PARENTHESES = 60
_MOST_MINUSES = 40


def parse(text):
    """Returns the expression of a text."""
    reader = Reader(_readable_tokens(text))
    e = reader.read_sum()
    if reader.kind() != "end":
        raise NoText(reader.begins_at())
    if not is_expression(e):
        raise NoText(len(text))
    return e


def _readable_tokens(text):
    """Returns the tokens, up to the first place at which none begins.

    There stands a token that the grammar takes nowhere, so that a fault of the grammar that
    comes before it is found first.
    """
    try:
        return tokens(text)
    except NoText as fault:
        at = fault.at
    return tokens(text[:at])[:-1] + [("none", "", at)]


class Reader:
    """Goes through tokens from the left to the right; each method reads one part of them."""

    def __init__(self, row):
        self.row = row
        self.place = 0
        self.parentheses = 0

    def kind(self):
        """Returns the kind of the token at this place."""
        return self.row[self.place][0]

    def begins_at(self):
        """Returns the index at which the token at this place begins."""
        return self.row[self.place][2]

    def taken(self, signs):
        """Goes past a sign and returns it, if it is one of these; otherwise returns ''."""
        kind, value, _ = self.row[self.place]
        if kind != "sign" or value not in signs:
            return ""
        self.place = self.place + 1
        return value

    def read_sum(self):
        """Returns the sum that begins here."""
        result = self.read_term()
        sign = self.taken("+-")
        while sign != "":
            result = (_NODE_OF_SIGN[sign], result, self.read_term())
            sign = self.taken("+-")
        return result

    def read_term(self):
        """Returns the term that begins here."""
        result = self.read_factor()
        sign = self.taken("*/")
        while sign != "":
            result = (_NODE_OF_SIGN[sign], result, self.read_factor())
            sign = self.taken("*/")
        return result

    def read_factor(self):
        """Returns the factor that begins here."""
        minuses = 0
        while minuses < _MOST_MINUSES and self.taken("-") != "":
            minuses = minuses + 1
        result = self.read_atom()
        if self.taken("^") != "":
            result = ("pow", result, self.read_power())
        for _ in range(minuses):
            result = ("neg", result)
        return result

    def read_power(self):
        """Returns the exponent that begins here."""
        minus = self.taken("-")
        kind, value, at = self.row[self.place]
        if kind != "number" or value > MOST_POWER:
            raise NoText(at)
        self.place = self.place + 1
        if minus != "":
            return -value
        return value

    def read_atom(self):
        """Returns the atom that begins here."""
        kind, value, _ = self.row[self.place]
        if kind == "number":
            self.place = self.place + 1
            return ("num", value, 1)
        if kind == "word":
            self.place = self.place + 1
            if value == "x":
                return ("x",)
        if self.parentheses == _MOST_PARENTHESES or self.taken("(") == "":
            raise NoText(self.begins_at())
        self.parentheses = self.parentheses + 1
        inner = self.read_sum()
        if self.taken(")") == "":
            raise NoText(self.begins_at())
        self.parentheses = self.parentheses - 1
        if kind == "word":
            return (value, inner)
        return inner


def plain(e):
    """Returns the plain form, in which all numbers are integers from 0."""
    return fold(e, _plain_node)


def _plain_node(node, values):
    if node[0] != "num":
        return with_operands(node, values)
    _, n, d = node
    result = ("num", abs(n), 1)
    if n < 0:
        result = ("neg", result)
    if d != 1:
        result = ("div", result, ("num", d, 1))
    return result


def show(e):
    """Returns the text of the plain form."""
    written = []
    left = [plain(e)]
    while len(left) > 0:
        piece = left.pop()
        if isinstance(piece, str):
            written.append(piece)
        else:
            left.extend(list(reversed(_pieces(piece))))
    return "".join(written)


def _pieces(node):
    """Returns the list of the strings and operands of which the text of a node is made."""
    word = node[0]
    if word == "num":
        return [format_integer(node[1])]
    if word == "x":
        return ["x"]
    if word == "neg":
        return ["-"] + _within(node[1], node[1][0] in _SUMS + _PRODUCTS)
    if word == "pow":
        power = "^" + format_integer(node[2])
        return _within(node[1], node[1][0] not in _ATOMS) + [power]
    if word in _SUMS:
        right = _within(node[2], node[2][0] in _SUMS)
        return [node[1], _TEXT_OF_NODE[word]] + right
    if word in _PRODUCTS:
        left = _within(node[1], node[1][0] in _SUMS)
        return left + [_TEXT_OF_NODE[word]] + _within(node[2], node[2][0] in _SUMS + _PRODUCTS)
    return [word, "(", node[1], ")"]


def _within(operand, parentheses):
    """Returns the pieces of an operand, in parentheses if they are asked for."""
    if parentheses:
        return ["(", operand, ")"]
    return [operand]
