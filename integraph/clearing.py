"""Elements of fields brought to quotients of polynomials with integer coefficients, and back.

A ratio in n variables is a pair of coprime polynomials of integraph.wholes, the second one not
zero. A ratio is no unique form, but its sums and products cost much less than those of elements,
whose coefficients are fractions themselves.
"""

from integraph.rational import rational
from integraph.wholes import wadd, wcommon, wconstant, wmul, wpow, wquotient, wscale


def ratio_of(n, e):
    """Returns the ratio in n variables that the element e of level n is."""
    if n == 0:
        return e
    num, den = e
    top, top_divisor = cleared(n - 1, num)
    bottom, bottom_divisor = cleared(n - 1, den)
    # The integers and lower variables of cleared polynomials have no divisor in common with
    # their own divisor, so both polynomials are coprime if these two divisors are.
    _, left, right = wcommon(n - 1, bottom_divisor, top_divisor)
    return wscale(n, top, left), wscale(n, bottom, right)


def cleared(n, p):
    """Returns a polynomial in n + 1 variables and one in n: their quotient is p.

    p is a polynomial over the field of level n.
    """
    pairs = [ratio_of(n, e) for e in p]
    divisor = common_multiple(n, [b for _, b in pairs])
    coefficients = []
    for a, b in pairs:
        if b != divisor:
            a = wmul(n, a, wquotient(n, divisor, b))
        coefficients.append(a)
    return tuple(coefficients), divisor


def common_multiple(n, divisors):
    """Returns a least common multiple of a list of polynomials in n variables, none zero."""
    multiple = wconstant(n, 1)
    for b in divisors:
        if b != multiple:
            _, left, _ = wcommon(n, b, multiple)
            multiple = wmul(n, left, multiple)
    return multiple


def element_of(n, ratio):
    """Returns the element of level n that a ratio in n variables is."""
    a, b = ratio
    if n == 0:
        return rational(a, b)
    return over(n - 1, a, b[-1]), over(n - 1, b, b[-1])


def over(n, p, e):
    """Returns p / e, a polynomial over level n, for p in n + 1 variables and e in n."""
    return tuple([element_of(n, in_lowest_terms(n, a, e)) for a in p])


def in_lowest_terms(n, a, b):
    """Returns the ratio a / b of two polynomials in n variables, b not zero."""
    _, a, b = wcommon(n, a, b)
    return a, b


def ratio_sum(n, one, two):
    """Returns the sum of two ratios."""
    a, b = one
    c, d = two
    common, b_left, d_left = wcommon(n, b, d)
    top = wadd(n, wmul(n, a, d_left), wmul(n, c, b_left))
    # Only divisors that b and d have in common can be left in the sum.
    _, top, common = wcommon(n, top, common)
    return top, wmul(n, wmul(n, b_left, d_left), common)


def ratio_product(n, one, two):
    """Returns the product of two ratios."""
    a, b = one
    c, d = two
    _, a, d = wcommon(n, a, d)
    _, c, b = wcommon(n, c, b)
    return wmul(n, a, c), wmul(n, b, d)


def ratio_power(n, one, k):
    """Returns the k-th power of a ratio, k from 0."""
    a, b = one
    return wpow(n, a, k), wpow(n, b, k)
