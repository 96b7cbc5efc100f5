"""Residues of simple elements, and the logarithms that have them."""

from integraph.answers import power_sums, raised_polynomial
from integraph.divisor import squarefree_part
from integraph.field import Rationals
from integraph.polynomial import constant, degree, pdivide, pmonic, pmul, ppow, trim
from integraph.rational import ONE, ZERO, radd, rmul
from integraph.resultant import linear_resultant, zdivisors, zlinear
from integraph.vectors import cube_points, values_at


def residue_polynomial(tower, n, h):
    """Returns the monic polynomial whose roots are the residues of a simple element."""
    base = tower.field(n - 1)
    found = constant_residues(tower, n, h)
    if found is not None:
        return raised_polynomial(base, found)
    return pmonic(base, linear_resultant(base, h[1], h[0], _slope(tower, n, h[1])))


def constant_residues(tower, n, h):
    """Returns the residue polynomial over the rationals, or None if there is none."""
    pairs = _pairs_of_residues(tower, n, h)
    if pairs is None:
        return None
    found = (ONE,)
    for r, g in pairs:
        found = pmul(Rationals(), found, ppow(Rationals(), r, degree(g)))
    return found


def _pairs_of_residues(tower, n, h):
    """Returns the pairs (r, g): the residues at the roots of g are roots of r; or None.

    All residues are constant exactly if the residue polynomial has rational coefficients. Then
    it is the same one at each point for the variables below, which costs much less than the
    resultant itself, and each root of the denominator is a root of some g.
    """
    if len(h[0]) == 0:
        return ()
    base = tower.field(n - 1)
    a, d = h
    b = _slope(tower, n, d)
    guesses = _residues_at_points(n, (a, b, d))
    if guesses[0] != guesses[-1]:
        return None
    roots = raised_polynomial(base, squarefree_part(Rationals(), guesses[0]))
    divisor = tuple([constant(base, e) for e in d])
    pieces = zdivisors(base, zlinear(base, a, b), divisor, roots)
    if sum([degree(r) * degree(g) for r, g in pieces]) != degree(d):
        return None
    return tuple([(tuple([base.as_rational(e) for e in r]), g) for r, g in pieces])


def _slope(tower, n, d):
    """Returns the remainder of the derivative of d by d."""
    _, rest = pdivide(tower.field(n - 1), tower.derive_polynomial(n, d), d)
    return rest


def _residues_at_points(n, rows):
    """Returns the residue polynomials at two points, or at the only one for the level 1."""
    found = []
    size = 0
    while True:
        for point in cube_points(n - 1, size):
            values = [values_at(n - 1, row, point) for row in rows]
            if None in values:
                continue
            a, b, d = [trim(Rationals(), row) for row in values]
            p = linear_resultant(Rationals(), d, a, b)
            # Otherwise a root of d is one of b at this point, and has no residue.
            if len(p) == len(d):
                found.append(pmonic(Rationals(), p))
            if len(found) == min(n, 2):
                return found
        size = size + 1


def logarithms(tower, n, h):
    """Returns (logs, rest): h is the derivative of the logarithms plus the rest, or None."""
    pairs = _pairs_of_residues(tower, n, h)
    if pairs is None:
        return None
    logs = tuple([(r, by_powers_of_z(tower.field(n), g)) for r, g in pairs])
    return logs, _rest(tower, n, pairs)


def _rest(tower, n, pairs):
    """Returns the negative of what the logarithms have in their derivative beside h."""
    base = tower.field(n - 1)
    if tower.kind(n) != "exp":
        return base.zero()
    total = ZERO
    for r, g in pairs:
        total = radd(total, rmul((-degree(g), 1), power_sums(r, 2)[1]))
    return base.multiply(tower.ground(n), base.rational(total))


def by_powers_of_z(field, g):
    """Returns a polynomial over k[z] as one in z with coefficients in the field."""
    base = field.base
    found = []
    for j in range(max([len(c) for c in g], default=0)):
        coefficients = [c[j] if j < len(c) else base.zero() for c in g]
        found.append((trim(base, coefficients), (base.one(),)))
    return tuple(found)
