"""Limited integrals: D y plus rational multiples of given logarithmic derivatives."""

from integraph.equation import equation
from integraph.hermite import hermite
from integraph.linear import primitive
from integraph.polynomial import degree, last
from integraph.rational import ONE, ZERO, radd, rdiv, rmul, rneg
from integraph.vectors import combination


def head(tower, n, u):
    """Returns the quotient of the last coefficients of u, and the difference of the degrees."""
    num, den = u
    return tower.field(n - 1).divide(last(num), last(den)), degree(num) - degree(den)


def log_quotient(tower, n, u):
    """Returns u' / u."""
    num, den = u
    field = tower.field(n)
    # num'/num - den'/den has smaller divisors on the way than u' and its quotient by u.
    top = field.fraction(tower.derive_polynomial(n, num), num)
    return field.subtract(top, field.fraction(tower.derive_polynomial(n, den), den))


def limited(tower, n, g, us):
    """Returns ("found", y, cs), where D y and the c_i u_i' / u_i make g, or ("refused", data)."""
    reduction = hermite(tower, n, g)
    simple = tuple([simple_and_rest(tower, n, u) for u in us])
    base, relations = _base_and_relations(n, simple)
    kind, r = combination(n, tuple([simple[i][0] for i in base]), reduction[1])
    if kind == "apart":
        return ("refused", ("apart", reduction, simple, r))
    p = less_multiples(tower, n, reduction[2], [simple[i][1] for i in base], r)
    vectors = relation_vectors(len(us), base, relations)
    kind, found, weights = _reduced_integral(tower, n, p, us, vectors)
    if kind == "stopped":
        duals = _duals(n, [simple[i][0] for i in base])
        return ("refused", ("below", reduction, simple, base, duals, relations, r, found))
    cs = _spread(len(us), base, r)
    for weight, vector in zip(weights, vectors):
        cs = [radd(c, rmul(weight, k)) for c, k in zip(cs, vector)]
    return ("found", tower.field(n).add(reduction[0], found), tuple(cs))


def simple_and_rest(tower, n, u):
    """Returns the simple part of u' / u, and the rest."""
    rest, simple = tower.parts(n, log_quotient(tower, n, u))
    return simple, rest


def _base_and_relations(n, simple):
    """Returns the indexes of the independent simple parts, and what the others are of these."""
    base = ()
    relations = []
    for at, (part, _) in enumerate(simple):
        kind, found = combination(n, tuple([simple[i][0] for i in base]), part)
        if kind == "apart":
            base = base + (at,)
        else:
            relations.append(found)
    return base, tuple([found + (ZERO,) * (len(base) - len(found)) for found in relations])


def _duals(n, parts):
    """Returns, for each part, rows that show that it is apart from the others."""
    found = []
    for at, part in enumerate(parts):
        _, rows = combination(n, tuple(parts[:at] + parts[at + 1:]), part)
        found.append(rows)
    return tuple(found)


def less_multiples(tower, n, e, others, multiples):
    """Returns e less the sum of the others, each multiplied by a rational."""
    field = tower.field(n)
    for other, r in zip(others, multiples):
        if r != ZERO:
            e = field.subtract(e, field.multiply(other, field.rational(r)))
    return e


def _spread(count, base, r):
    """Returns the list with the multiples r at the indexes of the base, and zeros."""
    found = [ZERO] * count
    for at, c in zip(base, r):
        found[at] = c
    return found


def relation_vectors(count, base, relations):
    """Returns, for each index outside of the base, integers for which all simple parts cancel."""
    others = [at for at in range(count) if at not in base]
    found = []
    for at, relation in zip(others, relations):
        vector = _spread(count, base, [rneg(c) for c in relation])
        vector[at] = ONE
        found.append(primitive(tuple(vector)))
    return found


def product_of_heads(tower, n, us, vector):
    """Returns the product of the heads, each to its power, and the degree of the product."""
    base = tower.field(n - 1)
    product = base.one()
    size = 0
    for u, (k, _) in zip(us, vector):
        if k != 0:
            e, many = head(tower, n, u)
            product = base.multiply(product, base.power(e, k))
            size = size + k * many
    return product, size


def _reduced_integral(tower, n, p, us, vectors):
    """Returns ("found", q, weights) for a reduced element, or ("stopped", stop, None).

    The weights are the multiples of the logarithmic derivatives that the vectors make.
    """
    if n == 1:
        return "found", polynomial_integral(tower, p), ()
    kind, q, e = lowered_powers(tower, n, p)
    if kind == "stopped":
        return kind, q, None
    products = [product_of_heads(tower, n, us, vector) for vector in vectors]
    found = limited(tower, n - 1, e, lower_arguments(tower, n, [w for w, _ in products]))
    if found[0] == "refused":
        return "stopped", ("ground", q, e, found[1]), None
    _, b, weights = found
    if tower.kind(n) == "log":
        c = tower.field(n - 1).rational(weights[0])
        step = tower.from_terms(n, ((0, b), (1, c)))
        weights = weights[1:]
    else:
        sizes = [rmul(weight, (size, 1)) for weight, (_, size) in zip(weights, products)]
        moved = [tower.raise_to(tower.argument(n), n - 1, n)] * len(sizes)
        step = less_multiples(tower, n, tower.field(n).lift(b), moved, sizes)
    return "found", tower.field(n).add(q, step), weights


def lower_arguments(tower, n, products):
    """Returns the elements for the limited integral of the level below, a tuple."""
    if tower.kind(n) == "log":
        return (tower.argument(n),) + tuple(products)
    return tuple(products)


def polynomial_integral(tower, p):
    """Returns the polynomial in x with the derivative p and the constant zero."""
    pairs = [(i + 1, rdiv(c, (i + 1, 1))) for i, c in tower.terms(1, p)]
    return tower.from_terms(1, tuple(pairs))


def lowered_powers(tower, n, p):
    """Returns ("lowered", q, e) with p - D q = e of the level below, or ("stopped", stop, None).

    p is a reduced element over a logarithm or an exponential.
    """
    if tower.kind(n) == "log":
        return _lowered_degrees(tower, n, p)
    q = tower.field(n).zero()
    e = tower.field(n - 1).zero()
    for j, c in tower.terms(n, p):
        if j == 0:
            e = c
            continue
        kind, found = equation(tower, n - 1, multiple_of_argument(tower, n, j), c)
        if kind == "refused":
            return "stopped", ("power", j, c, found), None
        q = tower.field(n).add(q, tower.from_terms(n, ((j, found),)))
    return "lowered", q, e


def multiple_of_argument(tower, n, j):
    """Returns j a_n, an element of the level below."""
    base = tower.field(n - 1)
    return base.multiply(tower.argument(n), base.rational((j, 1)))


def _lowered_degrees(tower, n, p):
    """Returns what lowered_powers returns, over a logarithm."""
    field, base = tower.field(n), tower.field(n - 1)
    q = field.zero()
    rest = p
    while field.lowered(rest) is None:
        j, e = tower.terms(n, rest)[0]
        found = limited(tower, n - 1, e, (tower.argument(n),))
        if found[0] == "refused":
            return "stopped", ("lead", q, j, e, found[1]), None
        _, b, cs = found
        c = base.rational(rdiv(cs[0], (j + 1, 1)))
        step = tower.from_terms(n, ((j, b), (j + 1, c)))
        q = field.add(q, step)
        rest = field.subtract(rest, tower.derive(n, step))
    return "lowered", q, field.lowered(rest)
