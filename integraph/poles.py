"""Normal poles of the equation D y + (D w) y = g: what y has there, and the equation without."""

from integraph.divisor import pgcd, separate, squarefree
from integraph.field import field_of
from integraph.polynomial import pmul, ppow, pquotient


def clear(tower, n, w, g):
    """Returns ("simple", p) or ("cleared", h, q, a, b, c) for the equation of w and g."""
    base = tower.field(n - 1)
    simple = h = q = a = (base.one(),)
    for p in _common_places(tower, n, w, g):
        i = _multiplicity(base, w[1], p)
        j = _multiplicity(base, g[0], p) - _multiplicity(base, g[1], p)
        if i > 0:
            h = pmul(base, h, ppow(base, p, max(0, -j - i - 1)))
            q = pmul(base, q, ppow(base, p, max(0, j + i + 1)))
            a = pmul(base, a, ppow(base, p, i + 1))
        elif j == -1:
            simple = pmul(base, simple, p)
        else:
            h = pmul(base, h, ppow(base, p, -j - 1))
            a = pmul(base, a, p)
    if len(simple) > 1:
        return ("simple", simple)
    return ("cleared", h, q, a) + _cleared_equation(tower, n, (w, g), (h, q, a))


def _common_places(tower, n, w, g):
    """Returns polynomials without common divisors at which w and g each have one order.

    Each of them divides the denominator of w or that of g.
    """
    base = tower.field(n - 1)
    _, poles = tower.special_split(n, w[1])
    _, other_poles = tower.special_split(n, g[1])
    _, zeros = tower.special_split(n, g[0])
    zeros, _ = separate(base, zeros, poles)
    found = []
    for p in (poles, other_poles, zeros):
        found.extend([part for part, _ in squarefree(base, p)])
    return coprime_parts(n, tuple(found))


def _cleared_equation(tower, n, equation, products):
    """Returns b and c of the equation for Y with y = Y q / h."""
    w, g = equation
    h, q, a = products
    base, field = tower.field(n - 1), tower.field(n)
    one = (base.one(),)
    change = tower.derive(n, w)
    change = field.add(change, field.fraction(tower.derive_polynomial(n, q), q))
    change = field.subtract(change, field.fraction(tower.derive_polynomial(n, h), h))
    b = field.multiply(field.fraction(a, one), change)
    c = field.multiply(field.fraction(pmul(base, a, h), q), g)
    return b, c


def coprime_parts(n, polynomials):
    """Returns the tuple of the polynomials without common divisors that make up these."""
    base = field_of(n - 1)
    found = []
    left = list(polynomials)
    while len(left) > 0:
        p = left.pop()
        common = [pgcd(base, p, q) for q in found]
        met = [at for at, d in enumerate(common) if len(d) > 1]
        if len(met) == 0:
            found.append(p)
            continue
        q, d = found[met[0]], common[met[0]]
        del found[met[0]]
        pieces = [d, pquotient(base, p, d), pquotient(base, q, d)]
        left.extend([piece for piece in pieces if len(piece) > 1])
    ordered = sorted([(len(part), part) for part in found])
    return tuple([part for _, part in ordered])


def order_at(n, p, e):
    """Returns the order of e at all irreducible divisors of p, or None if they are unlike."""
    base = field_of(n - 1)
    num, den = e
    order = _multiplicity(base, num, p) - _multiplicity(base, den, p)
    power = ppow(base, p, abs(order))
    one = (base.one(),)
    if order >= 0:
        num = pquotient(base, num, power)
    else:
        den = pquotient(base, den, power)
    if pgcd(base, num, p) == one and pgcd(base, den, p) == one:
        return order
    return None


def _multiplicity(field, p, q):
    """Returns how many times q, of positive degree, divides p, which is not zero."""
    k = 0
    left = pquotient(field, p, q)
    while left is not None:
        k = k + 1
        left = pquotient(field, left, q)
    return k
