"""Polynomials with integer coefficients in several variables, and their common divisors.

In no variables such a polynomial is an integer. In n variables it is a tuple of polynomials in
n - 1 variables: the coefficients of the powers of the last variable, the constant first. The
last one is not zero, and () is zero. So `not p` tells for each n that p is zero.
"""

from math import gcd, isqrt


def wconstant(n, k):
    """Returns the integer k as a polynomial in n variables."""
    if n == 0:
        return k
    if k == 0:
        return ()
    return (wconstant(n - 1, k),)


def _trim(coefficients):
    size = len(coefficients)
    while size > 0 and not coefficients[size - 1]:
        size = size - 1
    return tuple(coefficients[:size])


def wadd(n, p, q):
    """Returns the sum."""
    if n == 0:
        return p + q
    if len(p) < len(q):
        return wadd(n, q, p)
    total = [wadd(n - 1, a, b) for a, b in zip(p, q)]
    return _trim(total + list(p[len(q):]))


def wsub(n, p, q):
    """Returns the difference."""
    return wadd(n, p, _times_integer(n, q, -1))


def _times_integer(n, p, k):
    """Returns the product with an integer that is not zero."""
    if n == 0:
        return p * k
    return tuple([_times_integer(n - 1, a, k) for a in p])


def wmul(n, p, q):
    """Returns the product."""
    if n == 0:
        return p * q
    if not p or not q:
        return ()
    if n == 1:
        return _product_in_one(p, q)
    result = [()] * (len(p) + len(q) - 1)
    for i, a in enumerate(p):
        for j, b in enumerate(q):
            if a and b:
                result[i + j] = wadd(n - 1, result[i + j], wmul(n - 1, a, b))
    return tuple(result)


def _product_in_one(p, q):
    """Returns the product of two polynomials in one variable; nearly all the work is here."""
    result = [0] * (len(p) + len(q) - 1)
    for i, a in enumerate(p):
        if a:
            for j, b in enumerate(q):
                result[i + j] = result[i + j] + a * b
    return tuple(result)


def wscale(n, p, e):
    """Returns the product with a polynomial in n - 1 variables that is not zero."""
    if e == wconstant(n - 1, 1):
        return p
    return tuple([wmul(n - 1, a, e) for a in p])


def wpow(n, p, k):
    """Returns the k-th power, k from 0."""
    result = wconstant(n, 1)
    while k > 0:
        if k % 2 == 1:
            result = wmul(n, result, p)
        k = k // 2
        if k > 0:
            p = wmul(n, p, p)
    return result


def wformal(n, p):
    """Returns the formal derivative by the last variable."""
    return tuple([_times_integer(n - 1, a, k) for k, a in enumerate(p) if k > 0])


def wquotient(n, p, q):
    """Returns the quotient if q, not zero, divides p, otherwise None."""
    if n == 0:
        if p % q == 0:
            return p // q
        return None
    if len(q) == 1:
        return _each_quotient(n, p, q[0])
    size = len(q) - 1
    steps = max(0, len(p) - size)
    rest = list(p)
    quotient = [wconstant(n - 1, 0)] * steps
    for k in reversed(range(steps)):
        factor = wquotient(n - 1, rest[k + size], q[size])
        if factor is None:
            return None
        quotient[k] = factor
        if factor:
            _subtract_at(n - 1, rest, k, q[:size], factor)
    for a in rest[:size]:
        if a:
            return None
    return tuple(quotient)


def _subtract_at(n, rest, k, coefficients, factor):
    """Subtracts the products with the factor from the items of rest from k on."""
    minus = _times_integer(n, factor, -1)
    for i, a in enumerate(coefficients):
        if a:
            rest[k + i] = wadd(n, rest[k + i], wmul(n, a, minus))


def _each_quotient(n, p, e):
    """Returns p with each coefficient divided by e, or None."""
    if e == wconstant(n - 1, 1):
        return p
    quotient = []
    for a in p:
        part = wquotient(n - 1, a, e)
        if part is None:
            return None
        quotient.append(part)
    return tuple(quotient)


def wdivide(n, p, q):
    """Returns (e, s, r) with e p = s q + r, where r has a lower degree than q, not zero.

    e is a polynomial in n - 1 variables and not zero.
    """
    e, s, r = wconstant(n - 1, 1), (), p
    while len(r) >= len(q):
        _, up, top = wcommon(n - 1, q[-1], r[-1])
        step = (wconstant(n - 1, 0),) * (len(r) - len(q)) + (top,)
        e = wmul(n - 1, e, up)
        s = wadd(n, wscale(n, s, up), step)
        r = wsub(n, wscale(n, r, up), wmul(n, step, q))
    return e, s, r


def wcommon(n, p, q):
    """Returns a greatest common divisor, and the quotients of p and q by it.

    One of p and q is not zero. Only the sign of the divisor is open.
    """
    if not q:
        return p, wconstant(n, 1), q
    if not p:
        return q, p, wconstant(n, 1)
    if n == 0:
        common = gcd(p, q)
        return common, p // common, q // common
    if not p[0] or not q[0]:
        return _common_of_multiples(n, p, q)
    if len(p) == 1:
        return _over_common(n, (_common_coefficient(n - 1, p + q),), p, q)
    if len(q) == 1:
        return _over_common(n, (_common_coefficient(n - 1, q + p),), p, q)
    return _common_of_long(n, p, q)


def _over_common(n, common, p, q):
    return common, wquotient(n, p, common), wquotient(n, q, common)


def _common_of_multiples(n, p, q):
    """Returns what wcommon returns, for multiples of powers of the last variable."""
    i, j = _low_degree(p), _low_degree(q)
    common, left, right = wcommon(n, p[i:], q[j:])
    k = min(i, j)
    zero = (wconstant(n - 1, 0),)
    return zero * k + common, zero * (i - k) + left, zero * (j - k) + right


def _low_degree(p):
    """Returns the number of the zeros before the first coefficient that is not zero."""
    k = 0
    while not p[k]:
        k = k + 1
    return k


def _common_of_long(n, p, q):
    """Returns what wcommon returns, for positive degrees and constants that are not zero."""
    first, second = _content(n, p), _content(n, q)
    common, left, right = _common_by_values(n, _divided(n, p, first), _divided(n, q, second))
    both = gcd(first, second)
    return (_times_integer(n, common, both), _times_integer(n, left, first // both),
            _times_integer(n, right, second // both))


def _common_coefficient(n, items):
    """Returns the greatest common divisor of polynomials of which one is not zero."""
    unit = wconstant(n, 1)
    found = wconstant(n, 0)
    for a in items:
        if a:
            found, _, _ = wcommon(n, found, a)
        if found == unit:
            break
    return found


def _content(n, p):
    """Returns the greatest common divisor of all integers in p."""
    if n == 0:
        return abs(p)
    found = 0
    for a in p:
        found = gcd(found, _content(n - 1, a))
        if found == 1:
            break
    return found


def _divided(n, p, k):
    """Returns p with all integers divided by k, which divides them."""
    if k == 1:
        return p
    if n == 0:
        return p // k
    return tuple([_divided(n - 1, a, k) for a in p])


def _height(n, p):
    """Returns the greatest absolute value of the integers in p."""
    if n == 0:
        return abs(p)
    return max([_height(n - 1, a) for a in p], default=0)


def _common_by_values(n, p, q):
    """Returns what wcommon returns, for p and q whose integers have no common divisor.

    The last variable is replaced by a great integer, the base. The digits, to this base, of the
    common divisor of the two values are the coefficients of a candidate.
    """
    base = 2 * min(_height(n, p), _height(n, q)) + 29
    while True:
        value, _, _ = wcommon(n - 1, wvalue(n, p, base), wvalue(n, q, base))
        candidate = _digits(n, value, base)
        candidate = _divided(n, candidate, _content(n, candidate))
        # A candidate that divides both is the greatest common divisor: the value of what it
        # lacks divides the integer that was divided out of the digits, so it is at most half
        # the base; but the roots are too small for that.
        left = wquotient(n, p, candidate)
        if left is not None:
            right = wquotient(n, q, candidate)
            if right is not None:
                return candidate, left, right
        # This ends: except at finitely many places, what the values of the cofactors have in
        # common is an integer with a bound, so a greater base gives the right digits.
        base = base * (isqrt(isqrt(base)) + 1) + 1


def wvalue(n, p, k):
    """Returns the value for the integer k, not zero, in place of the last variable."""
    value = wconstant(n - 1, 0)
    for a in reversed(p):
        value = wadd(n - 1, _times_integer(n - 1, value, k), a)
    return value


def _digits(n, value, base):
    """Returns the polynomial in n variables with small coefficients that has this value."""
    found = []
    while value:
        digit, value = _low_digit(n - 1, value, base)
        found.append(digit)
    return tuple(found)


def _low_digit(n, value, base):
    """Returns the last digit, from the symmetric range, and what is left in front of it."""
    if n == 0:
        digit = (value + base // 2) % base - base // 2
        return digit, (value - digit) // base
    digits = []
    rest = []
    for a in value:
        low, high = _low_digit(n - 1, a, base)
        digits.append(low)
        rest.append(high)
    return _trim(digits), _trim(rest)


def wcofactors(n, p, q):
    """Returns (u, v, e) with u p + v q = e, where e, in n - 1 variables, is not zero.

    p and q have no common divisor of positive degree, and q is not zero. The degree of u is
    lower than that of q.
    """
    r, u = p, wconstant(n, 1)
    s, v = q, ()
    while len(s) > 1:
        e, quotient, rest = wdivide(n, r, s)
        next_v = wsub(n, wscale(n, u, e), wmul(n, quotient, v))
        r, u = s, v
        s, v = _without_common(n, rest, next_v)
    e, other, _ = wdivide(n, wsub(n, s, wmul(n, v, p)), q)
    return wscale(n, v, e), other, wmul(n - 1, s[0], e)


def _without_common(n, p, q):
    """Returns p and q divided by the greatest common divisor of all their coefficients."""
    common = (_common_coefficient(n - 1, p + q),)
    return wquotient(n, p, common), wquotient(n, q, common)


def wresultant(n, p, q):
    """Returns the resultant by the last variable, in n - 1 variables; p and q are not zero."""
    sign = 1
    if len(p) < len(q):
        sign = _sign_of_exchange(p, q)
        p, q = q, p
    if len(q) == 1:
        return wpow(n - 1, q[0], len(p) - 1)
    rows = [p] + wsubresultants(n, p, q)
    if len(rows[-1]) > 1:
        return wconstant(n - 1, 0)
    for row, following in zip(rows, rows[1:]):
        sign = sign * _sign_of_exchange(row, following)
    return _times_integer(n - 1, rows[-1][0], sign)


def wsubresultants(n, p, q):
    """Returns the list of q and the subresultants that have their full degree, but for signs.

    They stand in descending order. p and q are not zero, and p has at least the degree of q.
    Each division here is exact.
    """
    found = [q]
    lead = scale = wconstant(n - 1, 1)
    while len(q) > 1:
        steps = len(p) - len(q)
        rest = _scaled_rest(n, p, q)
        if not rest:
            break
        divisor = wmul(n - 1, lead, wpow(n - 1, scale, steps))
        p, q = q, wquotient(n, rest, (divisor,))
        lead = p[-1]
        scale = _next_scale(n - 1, scale, lead, steps)
        missing = len(p) - len(q) - 1
        full = wscale(n, q, wpow(n - 1, q[-1], missing))
        found.append(wquotient(n, full, (wpow(n - 1, scale, missing),)))
    return found


def _sign_of_exchange(p, q):
    """Returns -1 if both degrees are odd, otherwise 1."""
    if len(p) % 2 == 0 and len(q) % 2 == 0:
        return -1
    return 1


def _next_scale(n, scale, lead, steps):
    """Returns lead to the power of steps, divided by scale to the power of steps - 1."""
    if steps == 0:
        return scale
    return wquotient(n, wpow(n, lead, steps), wpow(n, scale, steps - 1))


def _scaled_rest(n, p, q):
    """Returns the remainder by q of p times the last coefficient of q, once for each step."""
    size = len(q) - 1
    rest = list(p)
    for k in reversed(range(len(p) - size)):
        top = rest.pop()
        rest = [wmul(n - 1, a, q[size]) for a in rest]
        if top:
            _subtract_at(n - 1, rest, k, q[:size], top)
    return _trim(rest)
