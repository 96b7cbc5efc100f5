"""Rational roots of polynomials over the rationals, and integer roots over any field.

The roots modulo a prime are lifted to a power of it, where the rational ones can be read.
"""

from integraph.clearing import cleared
from integraph.divisor import squarefree_part
from integraph.errors import ZeroDivisor
from integraph.field import Rationals
from integraph.rational import rational, rwhole
from integraph.wholes import wvalue


def rational_roots(p):
    """Returns the tuple of the rational roots, in ascending order, each once."""
    # The integers have no common divisor: the polynomial is monic before it is cleared.
    f, _ = cleared(0, squarefree_part(Rationals(), p))
    slope = tuple([k * c for k, c in enumerate(f)][1:])
    if len(slope) == 0:
        return ()
    prime = _good_prime(f, slope)
    bound = 4 * max([abs(c) for c in f])
    starts = [x for x in range(prime) if _value_modulo(f, x, prime) == 0]
    tops = sorted([_lifted_top(f, slope, x, prime, bound) for x in starts])
    roots = [rational(top, f[-1]) for top in tops]
    return tuple([x for x in roots if _is_root(f, x)])


def _good_prime(f, slope):
    """Returns the least prime modulo which f keeps its degree and has no double roots."""
    m = 2
    while f[-1] % m == 0 or not _is_prime(m) or not _coprime_modulo(f, slope, m):
        m = m + 1
    return m


def _is_prime(m):
    k = 2
    while k * k <= m:
        if m % k == 0:
            return False
        k = k + 1
    return True


def _coprime_modulo(p, q, m):
    """Tells whether two polynomials with integers have no common divisor modulo the prime m."""
    p, q = _residues(p, m), _residues(q, m)
    while len(q) > 0:
        p, q = q, _rest_modulo(p, q, m)
    return len(p) == 1


def _residues(p, m):
    """Returns the list of the coefficients modulo m, without the zeros at the end."""
    found = [c % m for c in p]
    while len(found) > 0 and found[-1] == 0:
        found.pop()
    return found


def _rest_modulo(p, q, m):
    size = len(q) - 1
    inverse = _inverse_modulo(q[-1], m)
    rest = list(p)
    while len(rest) > size:
        factor = rest.pop() * inverse
        shift = len(rest) - size
        for i in range(size):
            rest[shift + i] = (rest[shift + i] - factor * q[i]) % m
    return _residues(rest, m)


def _inverse_modulo(a, m):
    """Returns the inverse of a modulo the prime m, which does not divide a."""
    r, s = m, a % m
    u, v = 0, 1
    while s > 1:
        step = r // s
        r, s = s, r - step * s
        u, v = v, u - step * v
    return v % m


def _value_modulo(f, x, m):
    value = 0
    for c in reversed(f):
        value = (value * x + c) % m
    return value


def _lifted_top(f, slope, x, prime, bound):
    """Returns the integer that the root is, times the last coefficient, if it is rational.

    x is a root modulo the prime. Newton's steps make it one modulo a power above the bound.
    """
    modulus = prime
    inverse = _inverse_modulo(_value_modulo(slope, x, prime), prime)
    while modulus <= bound:
        modulus = modulus * modulus
        x = (x - _value_modulo(f, x, modulus) * inverse) % modulus
        inverse = inverse * (2 - _value_modulo(slope, x, modulus) * inverse) % modulus
    top = f[-1] * x % modulus
    if 2 * top > modulus:
        return top - modulus
    return top


def _is_root(f, x):
    n, d = x
    value = 0
    scale = 1
    for c in reversed(f):
        value = value * n + c * scale
        scale = scale * d
    return value == 0


def integer_roots(p):
    """Returns the tuple of the roots that are integers, as integers."""
    return tuple([x[0] for x in rational_roots(p) if rwhole(x)])


def integer_roots_in(field, p):
    """Returns the tuple of the integers that are roots of a polynomial over the field."""
    if len(p) == 0:
        raise ZeroDivisor("the roots of zero")
    n = field.level()
    whole, _ = cleared(n, p)
    line = _first_line(n, whole)
    candidates = integer_roots(tuple([(c, 1) for c in line]))
    return tuple([k for k in candidates if _is_zero_at(n, whole, k)])


def _first_line(n, p):
    """Returns the integers at the powers of z beside one product of powers of the variables.

    p has integer coefficients in n + 1 variables, z the last one, and is not zero. The line
    is not zero.
    """
    if n == 0:
        return p
    power = 0
    column = ()
    while len(column) == 0:
        column = _column(n, p, power)
        power = power + 1
    return _first_line(n - 1, column)


def _column(n, p, power):
    """Returns the coefficients of a power of the last variable but one, a polynomial in z."""
    zero = 0
    if n > 1:
        zero = ()
    found = [zero] * len(p)
    for k, c in enumerate(p):
        if power < len(c):
            found[k] = c[power]
    while len(found) > 0 and not found[-1]:
        found.pop()
    return tuple(found)


def _is_zero_at(n, p, k):
    if k == 0:
        return not p[0]
    return not wvalue(n + 1, p, k)
