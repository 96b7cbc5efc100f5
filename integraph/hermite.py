"""Reduction of poles of higher order to simple ones."""

from integraph.divisor import psolve, squarefree
from integraph.polynomial import padd, pmul, pneg, ppow, pquotient, pscale


def hermite(tower, n, f):
    """Returns (g, h, r) with f = D g + h + r, where h has simple poles and r is reduced."""
    field = tower.field(n)
    r, h = tower.parts(n, f)
    g = field.zero()
    while True:
        factors = squarefree(field.base, h[1])
        if len(factors) == 0 or factors[-1][1] == 1:
            return g, h, r
        step, h = _lowered_pole(tower, n, h, factors[-1])
        g = field.add(g, step)


def _lowered_pole(tower, n, f, factor):
    """Returns (g, h) with f = D g + h, where the poles at the factor have a lower order in h."""
    v, k = factor
    base = tower.field(n - 1)
    u, b, c = cofactors_at_pole(tower, n, f, factor)
    power = ppow(base, v, k - 1)
    rest = pmul(base, u, tower.derive_polynomial(n, b))
    rest = pneg(base, padd(base, rest, pscale(base, c, base.rational((k - 1, 1)))))
    field = tower.field(n)
    return field.fraction(b, power), field.fraction(rest, pmul(base, u, power))


def cofactors_at_pole(tower, n, f, factor):
    """Returns (u, b, c) for f = p / (u v^k), k from 2: b u D v + c v is -p / (k - 1)."""
    v, k = factor
    base = tower.field(n - 1)
    num, den = f
    u = pquotient(base, den, ppow(base, v, k))
    slope = pmul(base, u, tower.derive_polynomial(n, v))
    b, c = psolve(base, slope, v, pscale(base, num, base.rational((-1, k - 1))))
    return u, b, c


def is_reduction(tower, n, f, g, h, r):
    """Tells whether (g, h, r) is the triple of f."""
    field = tower.field(n)
    if not is_proper(n, g) or not _is_free(tower, n, g):
        return False
    if not is_simple(tower, n, h) or not is_reduced(tower, n, r):
        return False
    return field.add(field.add(tower.derive(n, g), h), r) == f


def is_proper(n, e):
    """Tells whether the numerator of e has a lower degree than its denominator."""
    num, den = e
    return len(num) < len(den)


def _is_free(tower, n, e):
    """Tells whether e has no special poles."""
    special, _ = tower.special_split(n, e[1])
    return len(special) == 1


def is_simple(tower, n, e):
    """Tells whether e is proper, and has a squarefree denominator without special divisors."""
    if not is_proper(n, e) or not _is_free(tower, n, e):
        return False
    return all([k == 1 for _, k in squarefree(tower.field(n - 1), e[1])])


def is_reduced(tower, n, e):
    """Tells whether the denominator of e is special."""
    _, normal = tower.special_split(n, e[1])
    return len(normal) == 1
