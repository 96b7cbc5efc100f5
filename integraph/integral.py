"""Integrals: answers with a given derivative, or data that show that there are none."""

from integraph.answers import derivative, is_answer, raise_answer
from integraph.divisor import psolve
from integraph.hermite import hermite
from integraph.limited import lowered_powers, polynomial_integral
from integraph.polynomial import pformal
from integraph.residues import logarithms


def integrate(tower, n, f):
    """Returns ("found", answer) with the derivative f, or ("refused", data)."""
    field = tower.field(n)
    if n == 0:
        if field.is_zero(f):
            return ("found", (f, ()))
        return ("refused", ("constant",))
    reduction = hermite(tower, n, f)
    found = logarithms(tower, n, reduction[1])
    if found is None:
        return ("refused", _residue_data(tower, n, reduction))
    logs, rest = found
    p = field.add(reduction[2], field.lift(rest))
    kind, q, more = _reduced_integral(tower, n, p)
    if kind == "stopped":
        return ("refused", ("part", (reduction[0], logs), p, q))
    return ("found", (field.add(reduction[0], q), logs + more))


def _residue_data(tower, n, reduction):
    """Returns what shows that not all residues are constant."""
    base = tower.field(n - 1)
    d = reduction[1][1]
    one = (base.one(),)
    slopes = psolve(base, d, tower.derive_polynomial(n, d), one)
    return ("residue", reduction, slopes, psolve(base, d, pformal(base, d), one))


def _reduced_integral(tower, n, p):
    """Returns ("found", part, logs) for a reduced element p, or ("stopped", stop, None)."""
    if n == 1:
        return "found", polynomial_integral(tower, p), ()
    kind, q, e = lowered_powers(tower, n, p)
    if kind == "stopped":
        return kind, q, None
    kind, found = integrate(tower, n - 1, e)
    if kind == "refused":
        return "stopped", ("ground", q, e, found), None
    part, logs = raise_answer(tower, found, n - 1, n)
    return "found", tower.field(n).add(q, part), logs


def holds(tower, n, f, answer):
    """Tells whether a value is an answer with the derivative f; every value may be asked about."""
    return is_answer(tower, n, answer) and derivative(tower, n, answer) == f
