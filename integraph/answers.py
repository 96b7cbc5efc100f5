"""Answers: an element, and sums of logarithms over the roots of polynomials.

An answer over a level is a pair (part, logs); logs is a tuple of pairs (r, s), where r is a
polynomial in z over the rationals, and s one over the level.
"""

from integraph.divisor import pgcd, psolve, squarefree_part
from integraph.errors import ZeroDivisor
from integraph.field import Rationals
from integraph.polynomial import is_polynomial, pdivide, pmul, trim
from integraph.rational import ONE, ZERO, radd, rmul, rneg


def is_answer(tower, n, value):
    """Tells whether a value is an answer over the level n; every value may be asked about."""
    if not isinstance(value, tuple) or len(value) != 2:
        return False
    part, logs = value
    if not isinstance(logs, tuple) or not tower.field(n).is_element(part):
        return False
    return all([_is_pair(tower.field(n), pair) for pair in logs])


def _is_pair(field, value):
    """Tells whether a value is a pair (r, s) of an answer over the field."""
    if not isinstance(value, tuple) or len(value) != 2:
        return False
    r, s = value
    if not is_polynomial(Rationals(), r) or not is_polynomial(field, s):
        return False
    if len(s) == 0 or len(s) >= len(r):
        return False
    if r[-1] != ONE or r[0] == ZERO or squarefree_part(Rationals(), r) != r:
        return False
    return len(pgcd(field, raised_polynomial(field, r), s)) == 1


def raised_polynomial(field, r):
    """Returns a polynomial over the rationals as one over the field."""
    return tuple([field.rational(c) for c in r])


def power_sums(r, count):
    """Returns the tuple of the sums of the powers 0 to count - 1 of the roots of r."""
    m = len(r) - 1
    sums = [(m, 1)]
    for k in range(1, count):
        total = ZERO
        if k <= m:
            total = rmul((k, 1), r[m - k])
        for i in range(1, min(k - 1, m) + 1):
            total = radd(total, rmul(r[m - i], sums[k - i]))
        sums.append(rneg(total))
    return tuple(sums[:count])


def root_sum(field, r, q):
    """Returns the sum of the values of q at the roots of r, an element of the field."""
    total = field.zero()
    for c, p in zip(q, power_sums(r, len(q))):
        total = field.add(total, field.multiply(c, field.rational(p)))
    return total


def log_derivative(tower, n, r, s):
    """Returns the derivative of the sum of the logarithms that one pair stands for."""
    field = tower.field(n)
    modulus = raised_polynomial(field, r)
    change = trim(field, [tower.derive(n, c) for c in s])
    inverse, _ = psolve(field, s, modulus, (field.one(),))
    _, rest = pdivide(field, (field.zero(),) + pmul(field, change, inverse), modulus)
    return root_sum(field, r, rest)


def derivative(tower, n, answer):
    """Returns the derivative of an answer over the level n, an element of this level."""
    part, logs = answer
    total = tower.derive(n, part)
    for r, s in logs:
        total = tower.field(n).add(total, log_derivative(tower, n, r, s))
    return total


def add_answers(tower, n, one, two):
    """Returns the sum of two answers."""
    return tower.field(n).add(one[0], two[0]), one[1] + two[1]


def raise_answer(tower, answer, low, high):
    """Returns an answer over the low level as one over the high level."""
    part, logs = answer
    raised = [(r, tuple([tower.raise_to(c, low, high) for c in s])) for r, s in logs]
    return tower.raise_to(part, low, high), tuple(raised)


def plain(tower, n, e):
    """Returns the answer that is an element of the level n."""
    return e, ()


def rational_log(tower, n, c, e):
    """Returns the answer that is the logarithm of e, multiplied by the rational c."""
    if c == ZERO or tower.field(n).is_zero(e):
        raise ZeroDivisor("a logarithm of zero, or none of a logarithm")
    return tower.field(n).zero(), (((rneg(c), ONE), (e,)),)
