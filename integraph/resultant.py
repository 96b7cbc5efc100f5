"""Resultants, also over k[z], and common divisors over the roots of a polynomial in z.

A polynomial over k[z] is a tuple of polynomials in z, the last one not zero.
"""

from integraph.clearing import cleared, common_multiple, element_of, in_lowest_terms, over
from integraph.divisor import pgcd, psolve, squarefree_part
from integraph.errors import Malformed, ZeroDivisor
from integraph.polynomial import (
    constant, degree, padd, pdivide, pmul, pquotient, psub, pvalue, trim)
from integraph.roots import rational_roots
from integraph.wholes import wconstant, wmul, wpow, wquotient, wresultant, wscale, wsubresultants


def resultant(field, p, q):
    """Returns the resultant of two polynomials, an element."""
    if len(p) == 0 or len(q) == 0:
        return field.zero()
    n = field.level()
    left, left_divisor = cleared(n, p)
    right, right_divisor = cleared(n, q)
    divisor = _scale_of_resultant(n, p, q, left_divisor, right_divisor)
    return element_of(n, in_lowest_terms(n, wresultant(n + 1, left, right), divisor))


def _scale_of_resultant(n, p, q, left, right):
    """Returns what the resultant is multiplied by, where p is multiplied by left, q by right."""
    return wmul(n, wpow(n, left, degree(q)), wpow(n, right, degree(p)))


def zvalue(field, p, e):
    """Returns the value of a polynomial over k[z] at an element, a polynomial."""
    return trim(field, [pvalue(field, c, e) for c in p])


def zresultant(field, p, q):
    """Returns the resultant of two polynomials over k[z], a polynomial in z."""
    if len(p) == 0 or len(q) == 0:
        return ()
    n = field.level()
    left, left_divisor = _zcleared(n, p)
    right, right_divisor = _zcleared(n, q)
    divisor = _scale_of_resultant(n, p, q, left_divisor, right_divisor)
    return over(n, wresultant(n + 2, left, right), divisor)


def _zcleared(n, p):
    """Returns a polynomial in n + 2 variables, z the last but one, and one in n: p times it."""
    pairs = [cleared(n, c) for c in p]
    divisor = common_multiple(n, [b for _, b in pairs])
    coefficients = [wscale(n + 1, a, wquotient(n, divisor, b)) for a, b in pairs]
    return tuple(coefficients), divisor


def linear_resultant(field, p, a, b):
    """Returns the resultant of p and a - z b, a polynomial in z."""
    return zresultant(field, tuple([constant(field, e) for e in p]), zlinear(field, a, b))


def zlinear(field, a, b):
    """Returns a - z b, a polynomial over k[z]."""
    zero = field.zero()
    size = max(len(a), len(b))
    firsts = a + (zero,) * (size - len(a))
    seconds = b + (zero,) * (size - len(b))
    return tuple([trim(field, (e, field.negative(f))) for e, f in zip(firsts, seconds)])


def zdivisors(field, p, q, r):
    """Returns the tuple of the pairs (s, h): h has the values of the divisor at the roots of s."""
    _check_modulus(field, r)
    found, rest = _pieces_at_rational_roots(field, p, q, r)
    left = [(rest, p, q)]
    while len(left) > 0:
        s, one, two = left.pop()
        if len(s) == 1:
            continue
        high, low = _by_length(_ztrim(field, one, s), _ztrim(field, two, s))
        if len(high) == 0:
            raise ZeroDivisor("both values are zero at a root")
        d = pgcd(field, high[-1], s)
        if len(low) > 0 and len(d) == 1:
            d = pgcd(field, low[-1], s)
        if len(d) > 1:
            left.append((d, high, low))
            left.append((pquotient(field, s, d), high, low))
            continue
        for piece in _pieces_of_full_degrees(field, high, low, s):
            found = _with_piece(field, found, piece)
    ordered = sorted([(len(piece[1]), piece) for piece in found])
    return tuple([piece for _, piece in ordered])


def _pieces_of_full_degrees(field, p, q, s):
    """Returns the pieces where the last coefficients of p and q are not zero at a root of s.

    The divisor at a root is the first subresultant, from the lowest degree on, of which the
    last coefficient is not zero there. They are not made modulo s: fractions would grow.
    """
    n = field.level()
    rows = [_zcleared(n, p)[0]]
    if len(q) > 0:
        rows = wsubresultants(n + 2, rows[0], _zcleared(n, q)[0])
    unit = wconstant(n, 1)
    found = []
    for row in reversed(rows):
        top = _zrest(field, over(n, row[-1], unit), s)
        d = pgcd(field, top, s)
        here = pquotient(field, s, d)
        s = d
        if len(here) > 1:
            inverse, _ = psolve(field, top, here, (field.one(),))
            coefficients = [_zrest(field, over(n, c, unit), here) for c in row]
            h = tuple([_zproduct(field, c, inverse, here) for c in coefficients])
            found.append((here, h))
        if len(s) == 1:
            break
    return found


def _pieces_at_rational_roots(field, p, q, r):
    """Returns the pieces at the rational roots of r, and r without these roots.

    They cost less than those at other roots, since nothing is taken modulo a polynomial.
    """
    numbers = [field.as_rational(c) for c in r]
    if None in numbers:
        return [], r
    found = []
    for root in rational_roots(tuple(numbers)):
        c = field.rational(root)
        line = (field.negative(c), field.one())
        g = pgcd(field, zvalue(field, p, c), zvalue(field, q, c))
        if len(g) == 0:
            raise ZeroDivisor("both values are zero at a root")
        found = _with_piece(field, found, (line, tuple([constant(field, e) for e in g])))
        r = pquotient(field, r, line)
    return found, r


def _check_modulus(field, r):
    if degree(r) < 1 or r[-1] != field.one():
        raise Malformed("a polynomial that is not monic and of positive degree")
    if squarefree_part(field, r) != r:
        raise Malformed("a polynomial that is not squarefree")


def _by_length(p, q):
    """Returns both, the longer one first."""
    if len(p) < len(q):
        return q, p
    return p, q


def _ztrim(field, p, s):
    """Returns p with coefficients modulo s, without the zeros at the end."""
    coefficients = [_zrest(field, c, s) for c in p]
    while len(coefficients) > 0 and len(coefficients[-1]) == 0:
        coefficients.pop()
    return tuple(coefficients)


def _zrest(field, c, s):
    if len(c) < len(s):
        return c
    _, rest = pdivide(field, c, s)
    return rest


def _zproduct(field, c, d, s):
    """Returns the product modulo s."""
    return _zrest(field, pmul(field, c, d), s)


def _with_piece(field, found, piece):
    """Returns the list with one piece more; pieces of the same length are put together."""
    for at, other in enumerate(found):
        if len(other[1]) == len(piece[1]):
            joined = (pmul(field, other[0], piece[0]), _joined(field, other, piece))
            return found[:at] + [joined] + found[at + 1:]
    return found + [piece]


def _joined(field, one, two):
    """Returns the polynomial over k[z] with the remainders g by s and h by r."""
    s, g = one
    r, h = two
    inverse, _ = psolve(field, s, r, (field.one(),))
    coefficients = []
    for c, d in zip(g, h):
        step = _zproduct(field, psub(field, d, c), inverse, r)
        coefficients.append(padd(field, c, pmul(field, s, step)))
    return tuple(coefficients)
