"""Common divisors of polynomials over a field, squarefree parts and partial fractions.

The divisors are those of polynomials with integer coefficients in one more variable than the
field has: there no fractions grow in the coefficients.
"""

from integraph.clearing import cleared, over
from integraph.errors import Malformed, ZeroDivisor
from integraph.polynomial import degree, pmonic, pquotient
from integraph.wholes import (
    wadd, wcofactors, wcommon, wconstant, wdivide, wformal, wmul, wpow, wquotient, wscale, wsub)


def pgcd(field, p, q):
    """Returns the greatest common divisor."""
    if len(p) == 0:
        return pmonic(field, q)
    # Nothing else needs this, but constants are common, and clearing the other one costs more.
    if len(p) == 1 or len(q) == 1:
        return (field.one(),)
    n = field.level()
    common, _, _ = wcommon(n + 1, cleared(n, p)[0], cleared(n, q)[0])
    return _monic_of(n, common)


def _monic_of(n, whole):
    """Returns the monic polynomial over level n that has the same divisors."""
    return over(n, whole, whole[-1])


def pbezout(field, p, q):
    """Returns (g, u, v) with the greatest common divisor g = u p + v q."""
    g = pgcd(field, p, q)
    u, v = psolve(field, p, q, g)
    return g, u, v


def psolve(field, a, b, c):
    """Returns the pair (s, t) with s a + t b = c, or None if there is none."""
    if len(b) > 0:
        return _solve_by_cofactors(field.level(), a, b, c)
    if len(a) == 0 and len(c) == 0:
        return (), ()
    s = pquotient(field, c, a)
    if s is None:
        return None
    return s, ()


def _solve_by_cofactors(n, a, b, c):
    """Returns what psolve returns, for b that is not zero."""
    left, left_divisor = cleared(n, a)
    right, right_divisor = cleared(n, b)
    goal, divisor = cleared(n, c)
    common, left, right = wcommon(n + 1, left, right)
    factor, goal, rest = wdivide(n + 1, goal, common)
    if len(rest) > 0:
        return None
    divisor = wmul(n, divisor, factor)
    u, v, value = wcofactors(n + 1, left, right)
    divisor = wmul(n, divisor, value)
    # Multiples of left and right can be exchanged, so s is brought to its low degree.
    factor, multiple, s = wdivide(n + 1, wmul(n + 1, u, goal), right)
    t = wscale(n + 1, wmul(n + 1, v, goal), factor)
    t = wadd(n + 1, t, wmul(n + 1, multiple, left))
    divisor = wmul(n, divisor, factor)
    return (over(n, wscale(n + 1, s, left_divisor), divisor),
            over(n, wscale(n + 1, t, right_divisor), divisor))


def squarefree(field, p):
    """Returns the tuple of the pairs of a squarefree part and its power."""
    n = field.level()
    left, repeated = _roots_once(n, p)
    found = []
    k = 1
    while len(left) > 1:
        left, part, repeated = wcommon(n + 1, left, repeated)
        if len(part) > 1:
            found.append((_monic_of(n, part), k))
        k = k + 1
    return tuple(found)


def _roots_once(n, p):
    """Returns p without the repetitions of its roots, and the repetitions, as whole ones."""
    if len(p) == 0:
        raise ZeroDivisor("the squarefree parts of zero")
    whole, _ = cleared(n, p)
    repeated, left, _ = wcommon(n + 1, whole, wformal(n + 1, whole))
    return left, repeated


def squarefree_part(field, p):
    """Returns the product of the squarefree parts, without their powers."""
    n = field.level()
    left, _ = _roots_once(n, p)
    return _monic_of(n, left)


def separate(field, p, q):
    """Returns (p1, p2): p is p1 p2, all divisors of p1 have some in common with q, p2 none."""
    if len(p) == 0:
        raise ZeroDivisor("the parts of zero")
    n = field.level()
    left, divisor = cleared(n, p)
    common, _ = cleared(n, q)
    taken = wconstant(n + 1, 1)
    # What is left can have in common with q only what it has with the last common divisor.
    while len(common) != 1:
        common, left, _ = wcommon(n + 1, left, common)
        taken = wmul(n + 1, taken, common)
    return _monic_of(n, taken), over(n, wscale(n + 1, left, taken[-1]), divisor)


def partial(field, a, factors):
    """Returns the polynomial and the numerators of the partial fractions of a / factors."""
    _check_factors(field, factors)
    n = field.level()
    top, divisor = cleared(n, a)
    rest = wconstant(n + 1, 1)
    for f, k in factors:
        whole, lead = cleared(n, f)
        top = wscale(n + 1, top, wpow(n, lead, k))
        rest = wmul(n + 1, rest, wpow(n + 1, whole, k))
    parts = []
    for f, k in factors:
        whole, _ = cleared(n, f)
        rest = wquotient(n + 1, rest, wpow(n + 1, whole, k))
        top, divisor, part = _take_factor(n, (top, divisor), rest, whole, k)
        parts.append(part)
    return over(n, top, divisor), tuple(parts)


def _check_factors(field, factors):
    for at, (f, k) in enumerate(factors):
        if degree(f) < 1 or f[-1] != field.one():
            raise Malformed("a factor that is not monic and of positive degree")
        if k < 1 or k > 100:
            raise Malformed("a power that is not from 1 to 100")
        for g, _ in factors[:at]:
            if degree(pgcd(field, f, g)) > 0:
                raise Malformed("two factors that are not coprime")


def _take_factor(n, a, rest, f, k):
    """Returns (top, divisor, part): a / (rest f^k) is top / (divisor rest) and the part's sum.

    a is a pair, too, and stands for its quotient. The last coefficient of f is the divisor that
    cleared took from the monic factor, so it belongs to the numerators of the part.
    """
    top, divisor = a
    inverse, value = _inverse_modulo(n, rest, f)
    part = []
    for j in range(k, 0, -1):
        factor, _, b = wdivide(n + 1, wmul(n + 1, top, inverse), f)
        factor = wmul(n, factor, value)
        top = wsub(n + 1, wscale(n + 1, top, factor), wmul(n + 1, b, rest))
        top = wquotient(n + 1, top, f)
        divisor = wmul(n, divisor, factor)
        part.append(over(n, b, wmul(n, divisor, wpow(n, f[-1], j))))
        _, top, left = wcommon(n + 1, top, (divisor,))
        divisor = left[0]
    part.reverse()
    return top, divisor, tuple(part)


def _inverse_modulo(n, p, f):
    """Returns (u, e) such that f divides u p - e; e has no last variable."""
    factor, _, low = wdivide(n + 1, p, f)
    u, _, e = wcofactors(n + 1, low, f)
    return wscale(n + 1, u, factor), e
