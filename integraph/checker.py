"""The checker of certificates. It searches for nothing: it only looks after what it is given."""

from integraph.answers import derivative, is_answer
from integraph.equation import refutes
from integraph.forms import has_shape, is_element_tuple, is_index_tuple, is_integer
from integraph.hermite import is_reduced, is_reduction, is_simple
from integraph.limited import (
    less_multiples, log_quotient, lower_arguments, multiple_of_argument, product_of_heads,
    relation_vectors)
from integraph.polynomial import (
    is_polynomial, padd, pdivide, pformal, pmul, pquotient, psub, trim)
from integraph.rational import is_rational
from integraph.vectors import is_apart


def accepts(tower, n, f, data):
    """Tells whether data show that no answer has the derivative f; data may be any value."""
    if has_shape(data, "constant", 1):
        return n == 0 and not tower.field(0).is_zero(f)
    if n >= 1 and has_shape(data, "residue", 4):
        return _accepts_residue(tower, n, f, data)
    if n >= 2 and has_shape(data, "part", 4):
        return _accepts_part(tower, n, f, data)
    return False


def _is_reduction_of(tower, n, f, value):
    """Tells whether a value is the tuple (G, S, R) of f."""
    if not is_element_tuple(tower, n, value) or len(value) != 3:
        return False
    return is_reduction(tower, n, f, value[0], value[1], value[2])


def _accepts_residue(tower, n, f, data):
    _, reduction, slopes, formal = data
    if not _is_reduction_of(tower, n, f, reduction) or len(reduction[1][0]) == 0:
        return False
    base = tower.field(n - 1)
    a, d = reduction[1]
    if not _makes_one(base, slopes, d, tower.derive_polynomial(n, d)):
        return False
    if not _makes_one(base, formal, d, pformal(base, d)):
        return False
    _, rho = pdivide(base, pmul(base, a, slopes[1]), d)
    # The derivative of a root of d is the value of minus d^D w there.
    change = pmul(base, pformal(base, rho), pmul(base, _derived(tower, n, d), formal[1]))
    return pquotient(base, psub(base, _derived(tower, n, rho), change), d) is None


def _derived(tower, n, p):
    """Returns the polynomial of the derivatives of the coefficients."""
    return trim(tower.field(n - 1), [tower.derive(n - 1, c) for c in p])


def _makes_one(base, value, p, q):
    """Tells whether a value is a pair of polynomials (u, v) with u p + v q = 1."""
    if not isinstance(value, tuple) or len(value) != 2:
        return False
    u, v = value
    if not is_polynomial(base, u) or not is_polynomial(base, v):
        return False
    return padd(base, pmul(base, u, p), pmul(base, v, q)) == (base.one(),)


def _accepts_part(tower, n, f, data):
    _, answer, p, stop = data
    if not is_answer(tower, n, answer) or not _is_reduced_element(tower, n, p):
        return False
    if tower.field(n).add(derivative(tower, n, answer), p) != f:
        return False
    if has_shape(stop, "ground", 4):
        return _leaves_ground(tower, n, p, stop) and accepts(tower, n - 1, stop[2], stop[3])
    return _accepts_power(tower, n, p, stop)


def _is_reduced_element(tower, n, value):
    return tower.field(n).is_element(value) and is_reduced(tower, n, value)


def _leaves_ground(tower, n, p, stop):
    """Tells whether p less the derivative of q is the element e of the level below."""
    _, q, e, _ = stop
    field = tower.field(n)
    if not _is_reduced_element(tower, n, q) or not field.base.is_element(e):
        return False
    return field.subtract(p, tower.derive(n, q)) == field.lift(e)


def _accepts_power(tower, n, p, stop):
    """Tells whether a value is a stop at a power of t other than the power 0."""
    if has_shape(stop, "lead", 5):
        return tower.kind(n) == "log" and _accepts_lead(tower, n, p, stop)
    if not has_shape(stop, "power", 4) or tower.kind(n) != "exp":
        return False
    _, j, e, inner = stop
    if not is_integer(j) or j == 0 or not tower.field(n - 1).is_element(e):
        return False
    if (j, e) not in tower.terms(n, p):
        return False
    return refutes(tower, n - 1, multiple_of_argument(tower, n, j), e, inner)


def _accepts_lead(tower, n, p, stop):
    _, q, j, e, inner = stop
    if not _is_reduced_element(tower, n, q) or not is_integer(j) or j < 1:
        return False
    if not tower.field(n - 1).is_element(e):
        return False
    pairs = tower.terms(n, tower.field(n).subtract(p, tower.derive(n, q)))
    if pairs[:1] != ((j, e),):
        return False
    return accepts_limited(tower, n - 1, e, (tower.argument(n),), inner)


def accepts_limited(tower, n, g, us, data):
    """Tells whether data show that g has no limited integral with us; data may be any value."""
    below = has_shape(data, "below", 8)
    if not below and not has_shape(data, "apart", 4):
        return False
    reduction, simple = data[1], data[2]
    if not _is_reduction_of(tower, n, g, reduction) or not _are_parts(tower, n, us, simple):
        return False
    if below:
        return n >= 2 and _accepts_below(tower, n, us, data)
    return is_apart(n, tuple([part for part, _ in simple]), reduction[1], data[3])


def _are_parts(tower, n, us, value):
    """Tells whether a value has the simple part and the rest of each logarithmic derivative."""
    if not isinstance(value, tuple) or len(value) != len(us):
        return False
    for u, pair in zip(us, value):
        if not is_element_tuple(tower, n, pair) or len(pair) != 2:
            return False
        part, rest = pair
        if not is_simple(tower, n, part) or tower.field(n).lowered(rest) is None:
            return False
        if tower.field(n).add(part, rest) != log_quotient(tower, n, u):
            return False
    return True


def _accepts_below(tower, n, us, data):
    _, reduction, simple, base, duals, relations, r, stop = data
    if not is_index_tuple(base, len(us)):
        return False
    chosen = tuple([simple[i][0] for i in base])
    others = [simple[i][0] for i in range(len(us)) if i not in base]
    if not _are_duals(n, chosen, duals):
        return False
    if not isinstance(relations, tuple) or len(relations) != len(others):
        return False
    for part, relation in zip(others + [reduction[1]], relations + (r,)):
        if not _is_sum(tower, n, chosen, part, relation):
            return False
    p = less_multiples(tower, n, reduction[2], [simple[i][1] for i in base], r)
    if not has_shape(stop, "ground", 4):
        return _accepts_power(tower, n, p, stop)
    if not _leaves_ground(tower, n, p, stop):
        return False
    vectors = relation_vectors(len(us), base, relations)
    products = [product_of_heads(tower, n, us, vector)[0] for vector in vectors]
    return accepts_limited(
        tower, n - 1, stop[2], lower_arguments(tower, n, products), stop[3])


def _are_duals(n, parts, value):
    """Tells whether a value has rows for each part that show it is apart from the others."""
    if not isinstance(value, tuple) or len(value) != len(parts):
        return False
    for at, rows in enumerate(value):
        if not is_apart(n, parts[:at] + parts[at + 1:], parts[at], rows):
            return False
    return True


def _is_sum(tower, n, parts, target, value):
    """Tells whether a value has rationals, one for each part, that make the target."""
    if not isinstance(value, tuple) or len(value) != len(parts):
        return False
    if not all([is_rational(c) for c in value]):
        return False
    return tower.field(n).is_zero(less_multiples(tower, n, target, parts, value))
