"""Expressions: trees of tuples, their measures, derivatives, values and substitution.

Trees can be deep, so no function here calls itself for the operands of a node.
"""

from integraph.errors import Refused
from integraph.rational import (
    ONE, ZERO, format_integer, is_rational, radd, rdiv, rmul, rneg, rpow, rsub)

# The number of operands of each kind of node.
_OPERANDS = {
    "num": 0, "x": 0, "add": 2, "sub": 2, "mul": 2, "div": 2, "neg": 1, "pow": 1, "exp": 1, "log": 1}

MOST_POWER = 30

_MOST_NODES = 300
_MOST_LEVELS = 40
_MOST_WEIGHT = 400


def operands(node):
    """Returns the tuple of the operands of a node."""
    return node[1:1 + _OPERANDS[node[0]]]


def with_operands(node, values):
    """Returns the node with a list of others in place of its operands."""
    return (node[0],) + tuple(values) + node[1 + len(values):]


def fold(e, combine):
    """Returns the value of an expression.

    combine(node, values) returns the value of a node, where values is the list of the values
    of its operands. It is called for operands before their node, from the left to the right.
    """
    done = []
    for node in _operands_first(e):
        start = len(done) - len(operands(node))
        done[start:] = [combine(node, done[start:])]
    return done[0]


def _operands_first(e):
    """Returns the list of the nodes, operands before their node, from the left to the right."""
    found = []
    left = [e]
    while len(left) > 0:
        node = left.pop()
        found.append(node)
        left.extend(operands(node))
    found.reverse()
    return found


def is_expression(value):
    """Tells whether a value is a small expression; every value may be asked about."""
    many = 0
    left = [value]
    while len(left) > 0:
        node = left.pop()
        many = many + 1
        if many > _MOST_NODES or not _is_node(node):
            return False
        left.extend(operands(node))
    return depth(value) <= _MOST_LEVELS and weight(value) <= _MOST_WEIGHT


def _is_node(value):
    """Tells whether a value has the form of a node, whatever stands in place of operands."""
    if not isinstance(value, tuple) or len(value) == 0 or not isinstance(value[0], str):
        return False
    word = value[0]
    if word == "num":
        return is_rational(value[1:])
    if word == "pow":
        return len(value) == 3 and _is_power(value[2])
    return word in _OPERANDS and len(value) == 1 + _OPERANDS[word]


def _is_power(value):
    if not isinstance(value, int) or isinstance(value, bool):
        return False
    return -MOST_POWER <= value <= MOST_POWER


def count(e):
    """Returns the number of the nodes."""
    return len(_operands_first(e))


def depth(e):
    """Returns the greatest number of nodes that stand one within the other."""
    return fold(e, _depth_of_node)


def _depth_of_node(node, depths):
    return 1 + max(depths, default=0)


def weight(e):
    """Returns the weight: numbers count by their digits, powers by their exponents."""
    return fold(e, _weight_of_node)


def _weight_of_node(node, weights):
    word = node[0]
    if word == "num":
        return _digits(node[1]) + _digits(node[2])
    if word == "neg":
        return weights[0]
    if word == "pow":
        return 1 + abs(node[2]) * weights[0]
    if word == "exp" or word == "log":
        return 2 + weights[0]
    return 1 + sum(weights)


def _digits(n):
    return len(format_integer(abs(n)))


def differentiate(e):
    """Returns the derivative, by the rules alone: nothing is simplified."""
    return fold(e, _derivative_of_node)


def _derivative_of_node(node, derivatives):
    word = node[0]
    if word == "num":
        return ("num", 0, 1)
    if word == "x":
        return ("num", 1, 1)
    if word == "mul" or word == "div":
        return _derivative_of_product(node, derivatives)
    if word == "pow":
        return _derivative_of_power(node, derivatives[0])
    if word == "exp":
        return ("mul", node, derivatives[0])
    if word == "log":
        return ("div", derivatives[0], node[1])
    return with_operands(node, derivatives)


def _derivative_of_product(node, derivatives):
    word, u, v = node
    first = ("mul", derivatives[0], v)
    second = ("mul", u, derivatives[1])
    if word == "mul":
        return ("add", first, second)
    return ("div", ("sub", first, second), ("pow", v, 2))


def _derivative_of_power(node, derivative):
    _, u, k = node
    if k == 0:
        return ("num", 0, 1)
    return ("mul", ("mul", ("num", k, 1), ("pow", u, k - 1)), derivative)


def evaluate(e, q):
    """Returns the value at the rational q."""
    return fold(e, lambda node, values: _value_of_node(node, values, q))


def _value_of_node(node, values, q):
    word = node[0]
    if word == "num":
        return (node[1], node[2])
    if word == "x":
        return q
    if word == "neg":
        return rneg(values[0])
    if word == "pow":
        return _value_of_power(values[0], node[2])
    if word == "exp":
        return _value_of_exp(values[0])
    if word == "log":
        return _value_of_log(values[0])
    return _value_of_two(word, values[0], values[1])


def _value_of_two(word, a, b):
    if word == "add":
        return radd(a, b)
    if word == "sub":
        return rsub(a, b)
    if word == "mul":
        return rmul(a, b)
    if b == ZERO:
        raise Refused("zero")
    return rdiv(a, b)


def _value_of_power(a, k):
    if a == ZERO and k < 0:
        raise Refused("zero")
    return rpow(a, k)


def _value_of_exp(a):
    if a != ZERO:
        raise Refused("constant")
    return ONE


def _value_of_log(a):
    if a == ZERO:
        raise Refused("zero")
    if a != ONE:
        raise Refused("constant")
    return ZERO


def substitute(e, f):
    """Returns e with f in place of x."""
    return fold(e, lambda node, values: f if node[0] == "x" else with_operands(node, values))
